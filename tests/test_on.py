"""on: whether corners are a face, and the least face that has them all."""

import unittest
from itertools import combinations, permutations, product

from alikebodies.bodies import face, faces, on
from tests import shapes


def every_choice(many):
    """All rows of rising numbers from 0 to many - 1, of all sizes."""
    return [list(chosen) for size in range(many + 1) for chosen in combinations(range(many), size)]


def furthest(ahead, points):
    """The numbers of those of these ordered points that are the furthest in this direction."""
    heights = [sum(a * x for a, x in zip(ahead, point)) for point in points]
    return [k for k, height in enumerate(heights) if height == max(heights)]


class TwoDimensions(unittest.TestCase):
    def test_triangle(self):
        # All choices of its corners are faces.
        for chosen in every_choice(3):
            answer = [1, len(chosen) - 1, len(chosen)] + chosen
            self.assertEqual(on(2, chosen, shapes.TRIANGLE), answer)

    def test_square(self):
        # In order: (0, 0), (0, 2), (2, 0), (2, 2): 0 and 3 are opposite, 1 and 2 as well.
        for chosen in ([0, 1], [0, 2], [1, 3], [2, 3]):
            self.assertEqual(on(2, chosen, shapes.SQUARE), [1, 1, 2] + chosen)
        for chosen in ([0, 3], [1, 2], [0, 1, 2], [0, 1, 3], [0, 2, 3], [1, 2, 3]):
            self.assertEqual(on(2, chosen, shapes.SQUARE), [0, 2, 4, 0, 1, 2, 3])

    def test_decagon(self):
        # The corners lie on a bow: neighbours are joined, and the last one with the first.
        edges = [[k, k + 1] for k in range(9)] + [[0, 9]]
        for chosen in every_choice(10)[1:]:
            if len(chosen) == 1 or chosen in edges:
                self.assertEqual(on(2, chosen, shapes.DECAGON), [1, len(chosen) - 1, len(chosen)] + chosen)
            elif len(chosen) in (2, 9):
                self.assertEqual(on(2, chosen, shapes.DECAGON), [0, 2, 10] + list(range(10)))


class ThreeDimensions(unittest.TestCase):
    def test_cube(self):
        # The corner (x, y, z) has the number 4 x + 2 y + z: the least face keeps the numbers all chosen ones share.
        corners = list(product((0, 1), repeat=3))
        for chosen in every_choice(8)[1:]:
            shared = [[corners[k][place] for k in chosen] for place in range(3)]
            least = [k for k in range(8) if all(corners[k][place] in shared[place] for place in range(3))]
            dimension = sum(len(set(numbers)) - 1 for numbers in shared)
            answer = [int(least == chosen), dimension, len(least)] + least
            self.assertEqual(on(3, chosen, shapes.CUBE), answer)

    def test_cube_by_hand(self):
        self.assertEqual(on(3, [2, 6], shapes.CUBE), [1, 1, 2, 2, 6])
        self.assertEqual(on(3, [1, 3, 5, 7], shapes.CUBE), [1, 2, 4, 1, 3, 5, 7])
        self.assertEqual(on(3, [1, 7], shapes.CUBE), [0, 2, 4, 1, 3, 5, 7])
        self.assertEqual(on(3, [1, 3, 5], shapes.CUBE), [0, 2, 4, 1, 3, 5, 7])
        self.assertEqual(on(3, [0, 7], shapes.CUBE), [0, 3, 8] + list(range(8)))
        # In one plane, but through the midst.
        self.assertEqual(on(3, [0, 1, 6, 7], shapes.CUBE), [0, 3, 8] + list(range(8)))

    def test_pyramid(self):
        # The square is 0 1 3 4, the apex 2.
        self.assertEqual(on(3, [0, 1, 3, 4], shapes.SQUARE_PYRAMID), [1, 2, 4, 0, 1, 3, 4])
        self.assertEqual(on(3, [0, 4], shapes.SQUARE_PYRAMID), [0, 2, 4, 0, 1, 3, 4])
        self.assertEqual(on(3, [0, 1, 3], shapes.SQUARE_PYRAMID), [0, 2, 4, 0, 1, 3, 4])
        self.assertEqual(on(3, [0, 1, 2], shapes.SQUARE_PYRAMID), [1, 2, 3, 0, 1, 2])
        self.assertEqual(on(3, [1, 2], shapes.SQUARE_PYRAMID), [1, 1, 2, 1, 2])
        self.assertEqual(on(3, [0, 2, 4], shapes.SQUARE_PYRAMID), [0, 3, 5, 0, 1, 2, 3, 4])


class FourDimensions(unittest.TestCase):
    def test_simplex(self):
        for chosen in every_choice(5):
            self.assertEqual(on(4, chosen, shapes.SIMPLEX), [1, len(chosen) - 1, len(chosen)] + chosen)

    def test_cross_body(self):
        # Opposite corners are k and 7 - k: with both of them it's nothing less than the whole.
        for chosen in every_choice(8):
            if any(7 - k in chosen for k in chosen):
                answer = [int(len(chosen) == 8), 4, 8] + list(range(8))
            else:
                answer = [1, len(chosen) - 1, len(chosen)] + chosen
            self.assertEqual(on(4, chosen, shapes.CROSS), answer)

    def test_each_two_corners_joined(self):
        for chosen in combinations(range(7), 2):
            self.assertEqual(on(4, list(chosen), shapes.NEIGHBOURS), [1, 1, 2] + list(chosen))
        self.assertEqual(on(4, [0, 2, 4], shapes.NEIGHBOURS), [0, 4, 7] + list(range(7)))

    def test_triangle_times_triangle(self):
        # The corner (p, q) has the number 3 p + q: a face is some of the p with some of the q.
        for chosen in every_choice(9)[1:200]:
            some_p, some_q = {k // 3 for k in chosen}, {k % 3 for k in chosen}
            least = [k for k in range(9) if k // 3 in some_p and k % 3 in some_q]
            answer = [int(least == chosen), len(some_p) + len(some_q) - 2, len(least)] + least
            self.assertEqual(on(4, chosen, shapes.TWO_TRIANGLES), answer)


class NoneOneAndAll(unittest.TestCase):
    def test_no_corners(self):
        for name, n, points, answer in shapes.KNOWN:
            with self.subTest(name):
                self.assertEqual(on(n, [], points), [1, -1, 0])

    def test_one_corner(self):
        for name, n, points, answer in shapes.KNOWN:
            with self.subTest(name):
                for k in range(answer[0]):
                    self.assertEqual(on(n, [k], points), [1, 0, 1, k])

    def test_all_corners(self):
        for name, n, points, answer in shapes.KNOWN:
            with self.subTest(name):
                every = list(range(answer[0]))
                self.assertEqual(on(n, every, points), [1, n, len(every)] + every)

    def test_all_but_one(self):
        for name, n, points, answer in shapes.KNOWN:
            for k in range(answer[0]):
                with self.subTest(name, without=k):
                    some = [j for j in range(answer[0]) if j != k]
                    told = on(n, some, points)
                    # A pyramid's base is a side; else there is nothing less than all.
                    if told[0] == 1:
                        self.assertEqual(told, [1, n - 1, len(some)] + some)
                    else:
                        self.assertEqual(told, [0, n, answer[0]] + list(range(answer[0])))


class AgreesWithTheOtherCalls(unittest.TestCase):
    def test_what_face_tells_is_a_face(self):
        for name, n, points, answer in shapes.KNOWN:
            for dimension in range(n):
                for which in range(0, answer[dimension], 3):
                    with self.subTest(name, dimension=dimension, which=which):
                        row = face(n, dimension, which, points)
                        self.assertEqual(on(n, row[1:], points), [1, dimension] + row)

    def test_as_many_faces_as_faces_tells(self):
        for n, points in ((2, shapes.PENTAGON), (3, shapes.SQUARE_PYRAMID), (3, shapes.OCTAHEDRON),
                          (3, shapes.TRIANGLE_PRISM), (4, shapes.SIMPLEX), (4, shapes.NEIGHBOURS)):
            answer = faces(n, points)
            told = [on(n, chosen, points) for chosen in every_choice(answer[0])]
            for dimension in range(n):
                same = [row for row in told if row[:2] == [1, dimension]]
                self.assertEqual(len(same), answer[dimension])
            self.assertEqual(len([row for row in told if row[0] == 1]), sum(answer[:n]) + 2)

    def test_just_those_that_are_the_furthest_in_some_direction(self):
        # For these two bodies such plain directions lead to all faces that have a corner.
        for n, points in ((3, shapes.CUBE), (3, shapes.OCTAHEDRON)):
            ordered = sorted(points)
            found = [furthest(ahead, ordered) for ahead in product((-1, 0, 1), repeat=n)]
            for chosen in every_choice(len(ordered))[1:]:
                self.assertEqual(on(n, chosen, points)[0], int(chosen in found))


class WhichPointsAreHandedIn(unittest.TestCase):
    def test_points_that_are_no_corners_have_no_number(self):
        # In order: (0, 0), (0, 4), (4, 0); the others lie on an edge and within.
        points = [[2, 0], [0, 0], [1, 1], [0, 4], [0, 2], [4, 0]]
        self.assertEqual(on(2, [0, 2], points), [1, 1, 2, 0, 2])
        self.assertEqual(on(2, [0, 1, 2], points), [1, 2, 3, 0, 1, 2])
        self.assertEqual(on(2, [3], points), [-4])
        self.assertEqual(on(2, [0, 1, 2, 3], points), [-4])
        within = shapes.OCTAHEDRON + [[0, 0, 0]]
        self.assertEqual(on(3, [0, 5], within), [0, 3, 6] + list(range(6)))
        self.assertEqual(on(3, [6], within), [-4])
        self.assertEqual(on(4, [0, 7], shapes.CROSS + [[0, 0, 0, 0]]), [0, 4, 8] + list(range(8)))

    def test_points_handed_in_twice(self):
        self.assertEqual(on(2, [0, 1], shapes.TRIANGLE * 3), [1, 1, 2, 0, 1])
        self.assertEqual(on(2, [0, 1, 2], shapes.TRIANGLE * 2), [1, 2, 3, 0, 1, 2])
        self.assertEqual(on(2, [3], shapes.TRIANGLE * 2), [-4])
        self.assertEqual(on(3, [0, 3], shapes.CUBE + shapes.CUBE[:2]), [0, 2, 4, 0, 1, 2, 3])
        self.assertEqual(on(3, [0, 4], shapes.SQUARE_PYRAMID * 2), [0, 2, 4, 0, 1, 3, 4])
        self.assertEqual(on(4, [1, 3], shapes.SIMPLEX * 2), [1, 1, 2, 1, 3])

    def test_any_order_of_points(self):
        for points in permutations(shapes.SQUARE_PYRAMID):
            self.assertEqual(on(3, [0, 4], list(points)), [0, 2, 4, 0, 1, 3, 4])

    def test_the_farthest_numbers(self):
        corners = [[100, 100, 100], [100, -100, -100], [-100, 100, -100], [-100, -100, 100], [99, 99, 99]]
        self.assertEqual(on(3, [1, 3], corners), [1, 1, 2, 1, 3])
        hardly = [[-100, 0], [100, 0], [0, 100], [1, -1]]
        self.assertEqual(on(2, [0, 2], hardly), [1, 1, 2, 0, 2])
        self.assertEqual(on(2, [0, 3], hardly), [0, 2, 4, 0, 1, 2, 3])


if __name__ == "__main__":
    unittest.main()
