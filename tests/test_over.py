"""over: the faces of one dimension more that have a face."""

import unittest
from itertools import permutations

from alikebodies.bodies import face, faces, on, over
from tests import shapes


def told(rows):
    """What over answers when these are the faces, each the numbers of its corners."""
    answer = [len(rows)]
    for row in rows:
        answer = answer + [len(row)] + list(row)
    return answer


def faces_of(n, dimension, points, many):
    """The corners' numbers of each face of this dimension, -1 to n, of a body that has so many of them."""
    if dimension == -1:
        return [[]]
    if dimension == n:
        return [list(range(faces(n, points)[0]))]
    return [face(n, dimension, which, points)[1:] for which in range(many)]


class TwoDimensions(unittest.TestCase):
    def test_triangle(self):
        self.assertEqual(over(2, [], shapes.TRIANGLE), [3, 1, 0, 1, 1, 1, 2])
        self.assertEqual(over(2, [0], shapes.TRIANGLE), [2, 2, 0, 1, 2, 0, 2])
        self.assertEqual(over(2, [1], shapes.TRIANGLE), [2, 2, 0, 1, 2, 1, 2])
        self.assertEqual(over(2, [2], shapes.TRIANGLE), [2, 2, 0, 2, 2, 1, 2])
        for edge in ([0, 1], [0, 2], [1, 2]):
            self.assertEqual(over(2, edge, shapes.TRIANGLE), [1, 3, 0, 1, 2])
        self.assertEqual(over(2, [0, 1, 2], shapes.TRIANGLE), [0])

    def test_square(self):
        self.assertEqual(over(2, [3], shapes.SQUARE), [2, 2, 1, 3, 2, 2, 3])
        self.assertEqual(over(2, [1, 3], shapes.SQUARE), [1, 4, 0, 1, 2, 3])

    def test_decagon(self):
        self.assertEqual(over(2, [0], shapes.DECAGON), [2, 2, 0, 1, 2, 0, 9])
        self.assertEqual(over(2, [9], shapes.DECAGON), [2, 2, 0, 9, 2, 8, 9])
        self.assertEqual(over(2, [0, 9], shapes.DECAGON), [1, 10] + list(range(10)))


class ThreeDimensions(unittest.TestCase):
    def test_cube(self):
        self.assertEqual(over(3, [0], shapes.CUBE), told([[0, 1], [0, 2], [0, 4]]))
        self.assertEqual(over(3, [5], shapes.CUBE), told([[1, 5], [4, 5], [5, 7]]))
        self.assertEqual(over(3, [2, 6], shapes.CUBE), told([[0, 2, 4, 6], [2, 3, 6, 7]]))
        self.assertEqual(over(3, [1, 3, 5, 7], shapes.CUBE), told([range(8)]))

    def test_those_of_fewer_corners_first(self):
        # The square is 0 1 3 4, the apex 2.
        self.assertEqual(over(3, [0, 1], shapes.SQUARE_PYRAMID), told([[0, 1, 2], [0, 1, 3, 4]]))
        self.assertEqual(over(3, [3, 4], shapes.SQUARE_PYRAMID), told([[2, 3, 4], [0, 1, 3, 4]]))
        self.assertEqual(over(3, [0, 2], shapes.SQUARE_PYRAMID), told([[0, 1, 2], [0, 2, 3]]))
        self.assertEqual(over(3, [2], shapes.SQUARE_PYRAMID), told([[0, 2], [1, 2], [2, 3], [2, 4]]))
        self.assertEqual(over(3, [4], shapes.SQUARE_PYRAMID), told([[1, 4], [2, 4], [3, 4]]))

    def test_octahedron(self):
        # Opposite corners are k and 5 - k.
        self.assertEqual(over(3, [0], shapes.OCTAHEDRON), told([[0, 1], [0, 2], [0, 3], [0, 4]]))
        self.assertEqual(over(3, [1, 5], shapes.OCTAHEDRON), told([[1, 2, 5], [1, 3, 5]]))


class FourDimensions(unittest.TestCase):
    def test_simplex(self):
        self.assertEqual(over(4, [1], shapes.SIMPLEX), told([[0, 1], [1, 2], [1, 3], [1, 4]]))
        self.assertEqual(over(4, [1, 3], shapes.SIMPLEX), told([[0, 1, 3], [1, 2, 3], [1, 3, 4]]))
        self.assertEqual(over(4, [1, 2, 4], shapes.SIMPLEX), told([[0, 1, 2, 4], [1, 2, 3, 4]]))
        self.assertEqual(over(4, [1, 2, 3, 4], shapes.SIMPLEX), told([range(5)]))

    def test_cross_body(self):
        # Opposite corners are k and 7 - k.
        self.assertEqual(over(4, [0], shapes.CROSS), told([[0, k] for k in range(1, 7)]))
        self.assertEqual(over(4, [0, 1], shapes.CROSS), told([[0, 1, k] for k in range(2, 6)]))
        self.assertEqual(over(4, [0, 1, 2], shapes.CROSS), told([[0, 1, 2, 3], [0, 1, 2, 4]]))

    def test_pyramid_over_a_cube(self):
        # The apex is 4; each square of the cube is in the cube and in one pyramid, which has fewer corners.
        cube = [0, 1, 2, 3, 5, 6, 7, 8]
        self.assertEqual(over(4, [0, 1, 2, 3], shapes.CUBE_PYRAMID), told([[0, 1, 2, 3, 4], cube]))
        self.assertEqual(over(4, [5, 6], shapes.CUBE_PYRAMID), told([[4, 5, 6], [0, 1, 5, 6], [5, 6, 7, 8]]))
        self.assertEqual(over(4, [4], shapes.CUBE_PYRAMID), told([[k, 4] if k < 4 else [4, k] for k in cube]))


class EachKnownBody(unittest.TestCase):
    def test_no_corners(self):
        for name, n, points, answer in shapes.KNOWN:
            with self.subTest(name):
                self.assertEqual(over(n, [], points), told([[k] for k in range(answer[0])]))

    def test_all_corners(self):
        for name, n, points, answer in shapes.KNOWN:
            with self.subTest(name):
                self.assertEqual(over(n, list(range(answer[0])), points), [0])

    def test_each_side_is_in_the_whole_alone(self):
        for name, n, points, answer in shapes.KNOWN:
            with self.subTest(name):
                for side in faces_of(n, n - 1, points, answer[n - 1]):
                    self.assertEqual(over(n, side, points), told([range(answer[0])]))

    def test_one_dimension_less_is_in_two_sides(self):
        for name, n, points, answer in shapes.KNOWN:
            with self.subTest(name):
                for row in faces_of(n, n - 2, points, answer[n - 2]):
                    self.assertEqual(over(n, row, points)[0], 2)

    def test_one_corner(self):
        for name, n, points, answer in shapes.KNOWN:
            with self.subTest(name):
                edges = faces_of(n, 1, points, answer[1])
                for k in range(answer[0]):
                    self.assertEqual(over(n, [k], points), told([edge for edge in edges if k in edge]))

    def test_each_face_of_simple_bodies(self):
        # There a face of dimension d has just n - d over it.
        for name, n, points, answer in shapes.KNOWN:
            if answer[n] == 1:
                for dimension in range(n):
                    with self.subTest(name, dimension=dimension):
                        for row in faces_of(n, dimension, points, answer[dimension])[::2]:
                            self.assertEqual(over(n, row, points)[0], n - dimension)

    def test_those_of_the_next_dimension_that_have_it(self):
        for n, points in ((2, shapes.PENTAGON), (3, shapes.SQUARE_PYRAMID), (3, shapes.TRIANGLE_PRISM),
                          (3, shapes.CUBE), (4, shapes.SIMPLEX), (4, shapes.CUBE_PYRAMID)):
            answer = faces(n, points)
            rows = [faces_of(n, dimension, points, answer[dimension]) for dimension in range(-1, n + 1)]
            for these, more in zip(rows, rows[1:]):
                for row in these:
                    having = [other for other in more if set(row) < set(other)]
                    self.assertEqual(over(n, row, points), told(having))


class NoFace(unittest.TestCase):
    def test_by_hand(self):
        for n, corners, points in (
                (2, [0, 3], shapes.SQUARE), (2, [1, 2], shapes.SQUARE), (2, [0, 1, 2], shapes.SQUARE),
                (2, [0, 2], shapes.DECAGON), (2, list(range(9)), shapes.DECAGON),
                (3, [0, 3], shapes.CUBE), (3, [0, 7], shapes.CUBE), (3, [0, 1, 2], shapes.CUBE),
                (3, [0, 1, 6, 7], shapes.CUBE), (3, list(range(7)), shapes.CUBE),
                (3, [0, 5], shapes.OCTAHEDRON), (3, [0, 4], shapes.SQUARE_PYRAMID),
                (4, [0, 7], shapes.CROSS), (4, [0, 2, 4], shapes.NEIGHBOURS), (4, [0, 1, 2], shapes.CUBE_PYRAMID)):
            with self.subTest(n=n, corners=corners):
                self.assertEqual(over(n, corners, points), [-6])

    def test_just_where_on_says_so(self):
        for n, points, many in ((2, shapes.SQUARE, 4), (3, shapes.SQUARE_PYRAMID, 5), (3, shapes.TRIANGLE_PRISM, 6)):
            for mask in range(1 << many):
                corners = [k for k in range(many) if mask >> k & 1]
                refused = over(n, corners, points) == [-6]
                self.assertEqual(refused, on(n, corners, points)[0] == 0)


class WhichPointsAreHandedIn(unittest.TestCase):
    def test_points_that_are_no_corners_have_no_number(self):
        points = [[2, 0], [0, 0], [1, 1], [0, 4], [0, 2], [4, 0]]
        self.assertEqual(over(2, [], points), told([[0], [1], [2]]))
        self.assertEqual(over(2, [2], points), told([[0, 2], [1, 2]]))
        self.assertEqual(over(2, [0, 1, 2], points), [0])
        self.assertEqual(over(2, [3], points), [-4])
        self.assertEqual(over(3, [0, 5], shapes.OCTAHEDRON + [[0, 0, 0]]), [-6])
        self.assertEqual(over(3, [6], shapes.OCTAHEDRON + [[0, 0, 0]]), [-4])

    def test_points_handed_in_twice(self):
        self.assertEqual(over(2, [0, 1], shapes.TRIANGLE * 3), [1, 3, 0, 1, 2])
        self.assertEqual(over(2, [3], shapes.TRIANGLE * 3), [-4])
        self.assertEqual(over(3, [0, 1], shapes.SQUARE_PYRAMID * 2), told([[0, 1, 2], [0, 1, 3, 4]]))
        self.assertEqual(over(4, [1, 2, 4], shapes.SIMPLEX * 2), told([[0, 1, 2, 4], [1, 2, 3, 4]]))

    def test_any_order_of_points(self):
        for points in permutations(shapes.SQUARE_PYRAMID):
            self.assertEqual(over(3, [0, 1], list(points)), told([[0, 1, 2], [0, 1, 3, 4]]))


if __name__ == "__main__":
    unittest.main()
