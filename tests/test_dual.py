"""dual: the corners and the sides of the dual about a place within."""

import unittest
from fractions import Fraction
from itertools import permutations, product
from math import gcd

from alikebodies.bodies import alike, dual, faces
from tests import shapes
from tests.dual_by_trial import answer_of, corners_tried, parts_of, product_of, sides_of, tried
from tests.test_by_the_words import Chance, dimensions

MIDDLE = {n: [0, 1] * n for n in (2, 3, 4)}
# A square, a cube and so on about the middle, and what stands for their sides.
FROM_ONE_TO_ONE = {n: [list(point) for point in product((-1, 1), repeat=n)] for n in (2, 3, 4)}
ALONG = {n: [[sign if place == axis else 0 for place in range(n)] for axis in range(n) for sign in (1, -1)]
         for n in (2, 3, 4)}


def told(numbers):
    """A place of whole numbers, each told with 1 below."""
    return [part for number in numbers for part in (number, 1)]


def shifted(points, place):
    """The points as they are seen from the place."""
    return [[x - y for x, y in zip(point, place)] for point in points]


class TwoDimensions(unittest.TestCase):
    def test_triangle_about_a_whole_place(self):
        # The sides are -1 0 0, 0 -1 0 and 1 1 4, the corners 0 0, 0 4 and 4 0.
        self.assertEqual(dual(2, [1, 1, 1, 1], shapes.TRIANGLE), [
            3, -1, 1, 0, 1, 0, 1, -1, 1, 1, 2, 1, 2,
            3, -1, -1, 1, -1, 3, 1, 3, -1, 1])

    def test_triangle_about_a_fraction(self):
        # About 1/2 and 3/4: 1/2 for the first side, 3/4 for the second and 11/4 for the third.
        self.assertEqual(dual(2, [1, 2, 3, 4], shapes.TRIANGLE), [
            3, -2, 1, 0, 1, 0, 1, -4, 3, 4, 11, 4, 11,
            3, -2, -3, 4, -2, 13, 4, 14, -3, 4])

    def test_square_about_the_middle(self):
        self.assertEqual(dual(2, [1, 1, 1, 1], shapes.SQUARE), [
            4, -1, 1, 0, 1, 0, 1, -1, 1, 0, 1, 1, 1, 1, 1, 0, 1,
            4, -1, -1, 1, -1, 1, 1, 1, -1, 1, 1, 1, 1])

    def test_square_near_an_edge(self):
        # 1/1000 within the first side, in the middle of the others: the corner for it is far off.
        self.assertEqual(dual(2, [1, 1000, 1, 1], shapes.SQUARE), [
            4, -1000, 1, 0, 1, 0, 1, -1, 1, 0, 1, 1, 1, 1000, 1999, 0, 1,
            4, -1, -1000, 1000, -1, 1000, 1000, 1999, -1000, 1000, 1999, 1000, 1000])

    def test_corners_are_in_order_as_numbers(self):
        # 1/3 is less than 1/2, 2/5 between them; by what's above or below alone they would stand otherwise.
        points = [[-1, -6], [-1, 6], [3, -6], [3, 6]]
        self.assertEqual(parts_of(2, dual(2, MIDDLE[2], points))[0], [
            [-1, 0], [0, Fraction(-1, 6)], [0, Fraction(1, 6)], [Fraction(1, 3), 0]])
        points = [[3, 0], [2, 2], [-5, 1], [0, -2]]
        corners = parts_of(2, dual(2, MIDDLE[2], points))[0]
        self.assertEqual(corners, sorted(corners))
        self.assertEqual(corners, [[Fraction(-3, 10), Fraction(-1, 2)], [Fraction(-1, 12), Fraction(7, 12)],
                                   [Fraction(1, 3), Fraction(-1, 2)], [Fraction(1, 3), Fraction(1, 6)]])


class EachKnownBody(unittest.TestCase):
    def is_well_told(self, n, place, points):
        """All that the words say of an answer's form, and of how corners and sides belong together."""
        answer = dual(n, place, points)
        corners, many, sides = parts_of(n, answer)
        self.assertEqual(len(sides), many)
        self.assertEqual(answer, answer_of(corners, sides))
        for above, below in zip(answer[1:1 + 2 * n * len(corners):2], answer[2:2 + 2 * n * len(corners):2]):
            self.assertEqual(gcd(above, below), 1)
            self.assertGreater(below, 0)
        self.assertTrue(all(one < other for one, other in zip(corners, corners[1:])))
        self.assertTrue(all(one < other for one, other in zip(sides, sides[1:])))
        for side in sides:
            self.assertEqual(len(side), n + 1)
            self.assertEqual(gcd(*side), 1)
            heights = [product_of(side[:-1], corner) - side[-1] for corner in corners]
            self.assertEqual(max(heights), 0)
            self.assertGreaterEqual(heights.count(0), n)
        self.assertEqual([len(corners), many], [faces(n, points)[n - 1], faces(n, points)[0]])
        self.assertEqual(corners, corners_tried(n, place, points))

    def test_about_places_within(self):
        for name, n, points, many in shapes.WAYS:
            with self.subTest(name):
                self.is_well_told(n, self.middle(n, points, [1] * len(points)), points)
                self.is_well_told(n, self.middle(n, points, range(1, len(points) + 1)), points)

    def middle(self, n, points, parts):
        """A mixture of all points, so a place within; the parts are in this proportion."""
        place = []
        for axis in range(n):
            whole = sum(part * point[axis] for part, point in zip(parts, points))
            place += [whole, sum(parts)]
        return place

    def test_by_the_words(self):
        for name, n, points, answer in shapes.KNOWN:
            if answer[n - 1] > 8:
                continue
            with self.subTest(name):
                for parts in ([1] * len(points), range(len(points), 0, -1)):
                    place = self.middle(n, points, parts)
                    self.assertEqual(dual(n, place, points), tried(n, place, points))

    def test_bodies_by_chance(self):
        chance = Chance(17)
        for n, many, reach, times in ((2, 6, 3, 20), (2, 9, 100, 10), (3, 6, 2, 15), (3, 6, 100, 5), (4, 6, 2, 8)):
            done = 0
            while done < times:
                points = chance.points(n, many, reach)
                if dimensions(points) == n:
                    done += 1
                    place = self.middle(n, points, [chance.number(1, 20) for point in points])
                    with self.subTest(n=n, points=points, place=place):
                        self.assertEqual(dual(n, place, points), tried(n, place, points))

    def test_many_sides(self):
        place = [1, 997, -2, 991, 3, 983, -5, 977]
        self.is_well_told(4, place, shapes.TWICE_ROUND)
        self.assertEqual(dual(4, place, shapes.TWICE_ROUND)[0], 35)
        self.is_well_told(4, [1, 2, 0, 1, -1, 3, 0, 7], shapes.PENTAGON_ACROSS)
        self.assertEqual(dual(4, MIDDLE[4], shapes.PENTAGON_ACROSS)[0], 25)
        self.is_well_told(3, [1, 2, 6, 1, 1, 9], shapes.OCTAGON_BOTH_WAYS)
        self.assertEqual(dual(3, [0, 1, 5, 1, 0, 1], shapes.OCTAGON_BOTH_WAYS)[0], 16)

    def test_cube_and_octahedron_and_their_kin(self):
        for n in (2, 3, 4):
            along = sorted(ALONG[n])
            if n < 4:
                self.assertEqual(dual(n, MIDDLE[n], FROM_ONE_TO_ONE[n]),
                                 answer_of(along, [point + [1] for point in sorted(FROM_ONE_TO_ONE[n])]))
            self.assertEqual(dual(n, MIDDLE[n], ALONG[n]),
                             answer_of(sorted(FROM_ONE_TO_ONE[n]), [point + [1] for point in along]))

    def test_cube_elsewhere(self):
        # 1/4 from three of the sides and 3/4 from the others.
        answer = dual(3, [1, 4] * 3, shapes.CUBE)
        corners, many, sides = parts_of(3, answer)
        self.assertEqual(corners, [[-4, 0, 0], [0, -4, 0], [0, 0, -4],
                                   [0, 0, Fraction(4, 3)], [0, Fraction(4, 3), 0], [Fraction(4, 3), 0, 0]])
        self.assertEqual(sides, [(x, y, z, 4) for x in (-1, 3) for y in (-1, 3) for z in (-1, 3)])

    def test_pyramid(self):
        # About the middle of its height; the sides are 0 0 -1 0 and four that all rise.
        answer = dual(3, [1, 1, 1, 1, 1, 1], shapes.SQUARE_PYRAMID)
        self.assertEqual(answer, answer_of(
            [[Fraction(-3, 2), 0, Fraction(1, 2)], [0, Fraction(-3, 2), Fraction(1, 2)], [0, 0, -1],
             [0, Fraction(3, 2), Fraction(1, 2)], [Fraction(3, 2), 0, Fraction(1, 2)]],
            [[-1, -1, -1, 1], [-1, 1, -1, 1], [0, 0, 2, 1], [1, -1, -1, 1], [1, 1, -1, 1]]))

    def test_simplex(self):
        answer = dual(4, [1, 5] * 4, shapes.SIMPLEX)
        self.assertEqual(answer, answer_of(
            [[-5, 0, 0, 0], [0, -5, 0, 0], [0, 0, -5, 0], [0, 0, 0, -5], [5, 5, 5, 5]],
            [[-1, -1, -1, -1, 5], [-1, -1, -1, 4, 5], [-1, -1, 4, -1, 5], [-1, 4, -1, -1, 5], [4, -1, -1, -1, 5]]))


class TheDualsDual(unittest.TestCase):
    """About 0 .. 0 the dual's dual is the body."""

    def comes_back(self, n, points):
        """Whether the dual has whole numbers alone, few enough to be handed in; if so, its dual is the body."""
        corners = parts_of(n, dual(n, MIDDLE[n], points))[0]
        numbers = [number for corner in corners for number in corner]
        if len(corners) > 10 or any(number.denominator > 1 or abs(number) > 100 for number in numbers):
            return False
        whole = [[int(number) for number in corner] for corner in corners]
        own = sorted(points)
        self.assertEqual(dual(n, MIDDLE[n], whole), answer_of(own, sides_of(n, own)))
        self.assertEqual(dual(n, MIDDLE[n], points), answer_of(whole, sides_of(n, whole)))
        return True

    def test_by_hand(self):
        for n, points in (
                (2, FROM_ONE_TO_ONE[2]), (2, ALONG[2]), (2, [[1, 0], [0, 1], [-1, -1]]),
                (2, [[2, -1], [-1, 2], [-1, -1]]), (2, [[1, 0], [1, 1], [0, 1], [-1, 0], [-1, -1], [0, -1]]),
                (3, FROM_ONE_TO_ONE[3]), (3, ALONG[3]), (3, [[1, 0, 0], [0, 1, 0], [0, 0, 1], [-1, -1, -1]]),
                (3, [[1, 0, 0], [-1, 0, 0], [0, 1, 0], [0, 0, 1], [0, -1, -1]]),
                (4, [[1, 0, 0, 0], [0, 1, 0, 0], [0, 0, 1, 0], [0, 0, 0, 1], [-1, -1, -1, -1]]),
                (4, [[4, -1, -1, -1], [-1, 4, -1, -1], [-1, -1, 4, -1], [-1, -1, -1, 4], [-1, -1, -1, -1]]),
                (4, [[1, 0, 0, 0], [0, 1, 0, 0], [-1, -1, 0, 0], [0, 0, 1, 0], [0, 0, 0, 1], [0, 0, -1, -1]])):
            with self.subTest(n=n, points=points):
                self.assertTrue(self.comes_back(n, points))

    def test_each_of_few_directions(self):
        # All choices of six of the ten points, as far as the middle is within and all of them are corners.
        done = 0
        some = ALONG[3] + [[1, 1, 1], [-1, -1, -1], [1, 1, 0], [0, -1, -1]]
        for chosen in range(1 << 10):
            points = [some[k] for k in range(10) if chosen >> k & 1]
            if len(points) == 6 and dual(3, MIDDLE[3], points)[0] > 0 and faces(3, points)[0] == 6:
                done += self.comes_back(3, points)
        self.assertGreater(done, 10)

    def test_faces_stand_for_faces(self):
        # What of dimension d the body has, of dimension n - 1 - d the dual has; simple and simplicial change places.
        for n, points in ((2, ALONG[2]), (3, FROM_ONE_TO_ONE[3]), (3, ALONG[3]),
                          (3, [[1, 0, 0], [-1, 0, 0], [0, 1, 0], [0, 0, 1], [0, -1, -1]]),
                          (4, [[1, 0, 0, 0], [0, 1, 0, 0], [-1, -1, 0, 0],
                               [0, 0, 1, 0], [0, 0, 0, 1], [0, 0, -1, -1]])):
            corners = parts_of(n, dual(n, MIDDLE[n], points))[0]
            whole = [[int(number) for number in corner] for corner in corners]
            counts = faces(n, points)
            self.assertEqual(faces(n, whole), counts[:n][::-1] + counts[n:][::-1])

    def test_bodies_built_alike_have_duals_built_alike(self):
        one = [[1, 0, 0], [-1, 0, 0], [0, 1, 0], [0, 0, 1], [0, -1, -1]]
        other = [[1, 1, 0], [-1, -1, 0], [0, 1, 0], [0, 0, 1], [0, -1, -1]]
        duals = [[[int(number) for number in corner] for corner in parts_of(3, dual(3, MIDDLE[3], points))[0]]
                 for points in (one, other)]
        self.assertEqual(alike(3, 5, one + other)[0], alike(3, 6, duals[0] + duals[1])[0])
        self.assertEqual(alike(3, 5, one + other)[0], 12)


class WhichPlace(unittest.TestCase):
    def test_seen_from_the_place(self):
        for n, points, place in ((2, shapes.PENTAGON, [2, 1]), (2, shapes.DECAGON, [-1, 9]),
                                 (3, shapes.SQUARE_PYRAMID, [1, 1, 2]), (3, shapes.CUT_CUBE, [1, 1, 1]),
                                 (4, shapes.PENTAGON_ACROSS, [1, 0, 0, -1])):
            with self.subTest(n=n, points=points):
                self.assertEqual(dual(n, told(place), points), dual(n, MIDDLE[n], shifted(points, place)))

    def test_above_and_below_with_something_in_common(self):
        for n, points in ((2, shapes.TRIANGLE), (3, shapes.CUBE), (4, shapes.SIMPLEX)):
            answer = dual(n, [1, 6] * n, points)
            self.assertGreater(answer[0], n)
            for times in (2, 3, 10, 166):
                self.assertEqual(dual(n, [times, 6 * times] * n, points), answer)
            self.assertEqual(dual(n, [1, 6] + [7, 42] * (n - 1), points), answer)
        self.assertEqual(dual(2, [2, 4, 2, 4], shapes.SQUARE), dual(2, [1, 2, 1, 2], shapes.SQUARE))
        self.assertEqual(dual(2, [0, 1000, 0, 7], ALONG[2]), dual(2, [0, 1, 0, 1], ALONG[2]))
        self.assertEqual(dual(2, [1000, 1000, 5, 5], shapes.TRIANGLE), dual(2, [1, 1, 1, 1], shapes.TRIANGLE))

    def test_below_zero(self):
        points = [[-3, -1], [-1, -4], [-7, -6]]
        place = [-7, 2, -11, 3]
        self.assertEqual(dual(2, place, points), tried(2, place, points))
        self.assertGreater(dual(2, place, points)[0], 0)

    def test_which_number_belongs_to_which(self):
        # 1/3 and 3 are within this one, 3 and 1/3 aren't; nor are 1 and 3, or 3 and 1, told crosswise.
        points = [[0, 2], [1, 2], [0, 5], [1, 5]]
        self.assertEqual(dual(2, [1, 3, 3, 1], points), tried(2, [1, 3, 3, 1], points))
        self.assertEqual(dual(2, [3, 1, 1, 3], points), [-6])

    def test_the_farthest_numbers(self):
        far = [[-100, -100], [100, -100], [-100, 100], [100, 100]]
        place = [99999, 1000, -99999, 1000]
        self.assertEqual(dual(2, place, far), tried(2, place, far))
        self.assertEqual(dual(2, place, far)[:17], [
            4, -1000, 199999, 0, 1, 0, 1, -1000, 1, 0, 1, 1000, 199999, 1000, 1, 0, 1])


class WhichPointsAreHandedIn(unittest.TestCase):
    def test_points_that_are_no_corners(self):
        answer = dual(2, [1, 1, 1, 1], shapes.TRIANGLE)
        self.assertEqual(dual(2, [1, 1, 1, 1], [[1, 1], [2, 0]] + shapes.TRIANGLE + [[2, 2]]), answer)
        self.assertEqual(dual(3, MIDDLE[3], ALONG[3] + [[0, 0, 0]]), dual(3, MIDDLE[3], ALONG[3]))
        self.assertEqual(dual(4, MIDDLE[4], [[0, 0, 0, 0]] + ALONG[4]), dual(4, MIDDLE[4], ALONG[4]))

    def test_points_handed_in_twice(self):
        self.assertEqual(dual(2, [1, 1, 1, 1], shapes.TRIANGLE * 3), dual(2, [1, 1, 1, 1], shapes.TRIANGLE))
        self.assertEqual(dual(3, [1, 2] * 3, shapes.CUBE + shapes.CUBE[:2]), dual(3, [1, 2] * 3, shapes.CUBE))
        self.assertEqual(dual(4, [1, 6] * 4, shapes.SIMPLEX * 2), dual(4, [1, 6] * 4, shapes.SIMPLEX))

    def test_any_order_of_points(self):
        answer = dual(3, [1, 1] * 3, shapes.SQUARE_PYRAMID)
        for points in permutations(shapes.SQUARE_PYRAMID):
            self.assertEqual(dual(3, [1, 1] * 3, list(points)), answer)


if __name__ == "__main__":
    unittest.main()
