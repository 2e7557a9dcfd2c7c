"""What each call refuses, each refusal by itself and two at once."""

import unittest

from alikebodies.bodies import alike, dual, face, faces, on, over, ways
from tests import shapes

FAR = 4294967295
FLAT = {
    2: [[0, 0], [1, 1], [2, 2]],
    3: [[0, 0, 0], [1, 0, 5], [0, 1, 5], [1, 1, 10]],
    4: [[0, 0, 0, 3], [1, 0, 0, 3], [0, 1, 0, 3], [0, 0, 1, 3], [1, 1, 1, 3]],
}
FULL = {2: shapes.TRIANGLE, 3: shapes.TETRAHEDRON, 4: shapes.SIMPLEX}


class OfNAndPoints(unittest.TestCase):
    """Each is told by every call, also where its dimension and number, or its corners, are wrong besides."""

    def refused(self, refusal, n, points):
        self.assertEqual(faces(n, points), [refusal])
        for dimension, which in ((0, 0), (-1, 0), (n, 0), (FAR, 0), (0, -1), (1, FAR), (-FAR, -FAR)):
            self.assertEqual(face(n, dimension, which, points), [refusal])
        for corners in ([], [0], [0, 1], [-1], [FAR], [1, 0], [0, 0], list(range(20)), [-FAR] * 20):
            self.assertEqual(on(n, corners, points), [refusal])
            self.assertEqual(over(n, corners, points), [refusal])
        self.assertEqual(ways(n, points), [refusal])
        for place in ([1, 2] * 4, [1, 2] * 2, [1, 10] * 3, [], [1], [FAR, -FAR] * 4, [0, 0] * 2, [50, 1] * 3):
            self.assertEqual(dual(n, place, points), [refusal])
        # The first body's fault, the second's, and the same of both.
        good = FULL.get(n, shapes.TRIANGLE)
        if len(points + good) <= 24:
            self.assertEqual(alike(n, len(points), points + good), [refusal])
            self.assertEqual(alike(n, len(good), good + points), [refusal])
        if len(points + points) <= 24:
            self.assertEqual(alike(n, len(points), points + points), [refusal])

    def test_n(self):
        for n in (1, 0, -1, -2, -3, -FAR):
            self.refused(-3, n, shapes.TRIANGLE)
        self.refused(-3, 1, [[0], [1]])
        self.refused(-3, 0, [[]])
        for n in (5, 6, 8, FAR):
            self.refused(-3, n, shapes.SIMPLEX)
        self.refused(-3, 5, [[1 if place == k else 0 for place in range(5)] for k in range(6)])

    def test_no_points(self):
        for n in (2, 3, 4):
            self.refused(-2, n, [])

    def test_more_than_ten_points(self):
        for n in (2, 3, 4):
            self.refused(-2, n, FULL[n] + [FULL[n][0]] * (11 - len(FULL[n])))
            self.refused(-2, n, FULL[n] + [FULL[n][0]] * (24 - len(FULL[n])))
        self.refused(-2, 2, [[k, k * k] for k in range(-5, 6)])
        self.refused(-2, 4, shapes.TESSERACT)

    def test_ten_points_and_the_fewest(self):
        for n in (2, 3, 4):
            ten = FULL[n] + [FULL[n][0]] * (10 - len(FULL[n]))
            self.assertEqual(faces(n, ten), faces(n, FULL[n]))
            self.assertEqual(face(n, 0, n, ten), [1, n])
            self.assertEqual(on(n, [0, n], ten), [1, 1, 2, 0, n])
            self.assertEqual(over(n, [n], ten), over(n, [n], FULL[n]))
            self.assertEqual(ways(n, ten), ways(n, FULL[n]))
            self.assertEqual(dual(n, [1, 5] * n, ten), dual(n, [1, 5] * n, FULL[n]))
            self.assertEqual(alike(n, 10, ten + ten), alike(n, n + 1, FULL[n] + FULL[n]))

    def test_a_point_of_another_count(self):
        for n in (2, 3, 4):
            for count in (0, 1, 2, 3, 4, 5, 8):
                if count != n:
                    self.refused(-1, n, FULL[n] + [[1] * count])
                    self.refused(-1, n, [[1] * count] + FULL[n])
                    self.refused(-1, n, [[1] * count])

    def test_a_number_out_of_range(self):
        for n in (2, 3, 4):
            for number in (101, -101, 1000, FAR, -FAR):
                for place in range(n):
                    point = [0] * n
                    point[place] = number
                    self.refused(-1, n, FULL[n] + [point])
                    self.refused(-1, n, [point] + FULL[n])

    def test_the_last_numbers_in_range(self):
        for n in (2, 3, 4):
            for number in (100, -100):
                for place in range(n):
                    point = [0] * n
                    point[place] = number
                    self.assertGreater(faces(n, FULL[n] + [point])[0], n)

    def test_points_that_lie_in_fewer_dimensions(self):
        for n in (2, 3, 4):
            self.refused(-5, n, FLAT[n])
            self.refused(-5, n, FLAT[n] * 2)
            self.refused(-5, n, FULL[n][:n])
            self.refused(-5, n, [[7] * n])
            self.refused(-5, n, [[7] * n] * 10)
            self.refused(-5, n, [[k] * n for k in range(10)])
        self.refused(-5, 4, [[x, y, 0, 0] for x, y in shapes.DECAGON])
        self.refused(-5, 3, [[99, 98, 97], [-99, -98, -97], [100, -100, 100], [-100, 100, -100]])

    def test_points_that_hardly_lie_in_n_dimensions(self):
        self.assertEqual(faces(2, [[-100, -100], [100, 100], [99, 98]]), [3, 3, 1, 1])
        self.assertEqual(faces(3, [[99, 98, 97], [-99, -98, -97], [100, -100, 100], [-100, 100, -99]]),
                         [4, 6, 4, 1, 1])

    def test_two_at_once(self):
        for n in (-FAR, 1, 5, FAR):
            self.refused(-3, n, [])
            self.refused(-3, n, [[0, 0]] * 11)
            self.refused(-3, n, [[101], []])
            self.refused(-3, n, FLAT[2])
        for n in (2, 3, 4):
            self.refused(-2, n, [[]] * 11)
            self.refused(-2, n, FULL[n] + [[101] * n] * 9)
            self.refused(-2, n, [[k] * n for k in range(11)])
            self.refused(-1, n, FLAT[n] + [[1] * (n + 1)])
            self.refused(-1, n, FLAT[n] + [[101] * n])
            self.refused(-1, n, [[1] * (n - 1) + [-101]] * 2)


class OfCornersBesides(unittest.TestCase):
    """What on and over refuse of the corners' numbers."""

    def refused(self, n, corners, points):
        self.assertEqual(on(n, corners, points), [-4])
        self.assertEqual(over(n, corners, points), [-4])

    def test_numbers_that_do_not_rise(self):
        for n in (2, 3, 4):
            for corners in ([1, 0], [2, 1, 0], [0, 2, 1], [1, 2, 0], [1, 0, 2], list(range(n, -1, -1))):
                self.refused(n, corners, FULL[n])
        self.refused(3, [0, 1, 3, 2], shapes.CUBE)
        self.refused(3, [7, 6, 5, 4], shapes.CUBE)

    def test_the_same_number_twice(self):
        for n in (2, 3, 4):
            for corners in ([0, 0], [n, n], [0, 0, 1], [0, 1, 1], [0, 1, 2, 2], [0] * 20):
                self.refused(n, corners, FULL[n])
        self.refused(3, [0, 1, 2, 3, 3], shapes.CUBE)

    def test_a_number_below_zero(self):
        for n in (2, 3, 4):
            for corners in ([-1], [-n - 1], [-FAR], [-1, 0], [-1, 0, 1], [-2, -1], [0, -1], list(range(-10, 10))):
                self.refused(n, corners, FULL[n])

    def test_no_such_corner(self):
        for n in (2, 3, 4):
            for corners in ([n + 1], [0, n + 1], [n, n + 1], list(range(n + 2)), [FAR], [0, 1, FAR], list(range(20))):
                self.refused(n, corners, FULL[n])
        for name, n, points, answer in shapes.KNOWN:
            self.refused(n, [answer[0]], points)
            self.refused(n, list(range(answer[0] + 1)), points)
            self.assertEqual(on(n, [answer[0] - 1], points), [1, 0, 1, answer[0] - 1])
            self.assertEqual(over(n, list(range(answer[0])), points), [0])

    def test_ahead_of_no_face(self):
        # 0 and 3 are opposite in the square, and so are 1 and 2.
        self.assertEqual(over(2, [0, 3], shapes.SQUARE), [-6])
        for corners in ([3, 0], [0, 3, 3], [-1, 0, 3], [0, 3, 4], [2, 1], [1, 2, 1]):
            self.refused(2, corners, shapes.SQUARE)

    def test_on_never_refuses_for_no_face(self):
        for corners in ([0, 3], [1, 2], [0, 1, 2]):
            self.assertEqual(on(2, corners, shapes.SQUARE), [0, 2, 4, 0, 1, 2, 3])


class OfHowManyBesides(unittest.TestCase):
    """What alike refuses of how many, ahead of all else, and whose fault is told of the two bodies."""

    FAULTS = {
        -2: [[], [[0, 0]] * 11, shapes.DECAGON + [[0, 0]], [[]] * 12],  # two of these are 24 points at most
        -1: [[[]], [[0, 0, 0]], shapes.TRIANGLE + [[101, 0]], FLAT[2] + [[0, -101]], [[1]] * 10],
        -5: [FLAT[2], [[7, 7]], [[100, 100], [-100, -100]] * 5],
    }

    def test_below_zero(self):
        for n in (2, 3, 4):
            for how_many in (-1, -2, -n - 1, -10, -FAR):
                self.assertEqual(alike(n, how_many, FULL[n] * 2), [-4])
                self.assertEqual(alike(n, how_many, []), [-4])

    def test_more_than_there_are_points(self):
        for n in (2, 3, 4):
            for more in (1, 2, 10, FAR - 2 * n - 2):
                self.assertEqual(alike(n, 2 * n + 2 + more, FULL[n] * 2), [-4])
            self.assertEqual(alike(n, 1, []), [-4])
            self.assertEqual(alike(n, FAR, []), [-4])

    def test_ahead_of_all_else(self):
        for how_many in (-FAR, -1, 25, FAR):
            for n in (-FAR, 1, 2, 5, FAR):
                for points in ([], FLAT[2], FLAT[2] * 2, [[0, 0]] * 24, [[101, 0]], [[]], shapes.TRIANGLE * 2):
                    self.assertEqual(alike(n, how_many, points), [-4])

    def test_none_and_all(self):
        for n in (2, 3, 4):
            self.assertEqual(alike(n, 0, FULL[n]), [-2])
            self.assertEqual(alike(n, 0, []), [-2])
            self.assertEqual(alike(n, n + 1, FULL[n]), [-2])
            self.assertEqual(alike(n, 2 * n + 2, FULL[n] * 2), [-2])
            self.assertEqual(alike(n, 10, (FULL[n] * 4)[:10]), [-2])

    def test_n_ahead_of_the_points(self):
        for n in (-FAR, 0, 1, 5, FAR):
            for how_many, points in ((0, []), (0, shapes.TRIANGLE), (3, shapes.TRIANGLE), (3, shapes.TRIANGLE * 2),
                                     (3, FLAT[2] * 2), (11, [[0, 0]] * 24), (1, [[101, 0], []])):
                self.assertEqual(alike(n, how_many, points), [-3])

    def test_more_than_ten_points_on_one_side(self):
        self.assertEqual(alike(2, 11, shapes.TRIANGLE * 8), [-2])
        self.assertEqual(alike(2, 13, shapes.TRIANGLE * 8), [-2])
        self.assertEqual(alike(2, 9, shapes.TRIANGLE * 7), [-2])
        self.assertEqual(alike(2, 10, (shapes.TRIANGLE * 7)[:20]), [6, 0, 1, 2])

    def test_the_first_bodys_fault_is_told(self):
        for refusal, some in self.FAULTS.items():
            for points in some:
                self.assertEqual(alike(2, len(points), points + shapes.SQUARE), [refusal])
                self.assertEqual(alike(2, 4, shapes.SQUARE + points), [refusal])
                for others in self.FAULTS.values():
                    for other in others:
                        self.assertEqual(alike(2, len(points), points + other), [refusal])


class OfAPlaceBesides(unittest.TestCase):
    """What dual refuses of the place."""

    INSIDE = {n: [1, 5] * n for n in (2, 3, 4)}

    def changed(self, n, at, number):
        place = list(self.INSIDE[n])
        place[at] = number
        return place

    def test_another_count_of_numbers(self):
        for n in (2, 3, 4):
            for count in range(13):
                place = ([1, 5] * 6)[:count]
                if count == 2 * n:
                    self.assertEqual(dual(n, place, FULL[n])[0], n + 1)
                else:
                    self.assertEqual(dual(n, place, FULL[n]), [-4])
            self.assertEqual(dual(n, [], FULL[n]), [-4])
            self.assertEqual(dual(n, [1] * n, FULL[n]), [-4])

    def test_above_out_of_range(self):
        for n in (2, 3, 4):
            for axis in range(n):
                for number in (100001, -100001, FAR, -FAR):
                    self.assertEqual(dual(n, self.changed(n, 2 * axis, number), FULL[n]), [-4])
                for number in (100000, -100000):
                    self.assertEqual(dual(n, self.changed(n, 2 * axis, number), FULL[n]), [-6])

    def test_below_out_of_range(self):
        for n in (2, 3, 4):
            for axis in range(n):
                for number in (0, -1, -5, 1001, -1000, FAR, -FAR):
                    self.assertEqual(dual(n, self.changed(n, 2 * axis + 1, number), FULL[n]), [-4])
                self.assertEqual(dual(n, self.changed(n, 2 * axis + 1, 1000), FULL[n])[0], n + 1)
        for place in ([1, 1, 1, 1], [1, 1000, 1, 1], [1, 1, 1, 1000], [1000, 1000, 1000, 1000]):
            self.assertEqual(dual(2, place, shapes.TRIANGLE)[0], 3)

    def test_the_ends_of_both_ranges_at_once(self):
        hundreds = [[-100, -100], [-100, 100], [100, -100], [100, 100]]
        self.assertEqual(dual(2, [100000, 1000, 0, 1], hundreds), [-6])
        self.assertEqual(dual(2, [0, 1, -100000, 1000], hundreds), [-6])
        self.assertEqual(dual(2, [99999, 1000, -99999, 1000], hundreds)[0], 4)
        self.assertEqual(dual(2, [100001, 1000, 0, 1], hundreds), [-4])
        self.assertEqual(dual(2, [0, 1, 0, 1001], hundreds), [-4])

    def test_on_a_corner(self):
        for name, n, points, answer in shapes.KNOWN:
            for point in points:
                self.assertEqual(dual(n, [part for number in point for part in (number, 1)], points), [-6])

    def test_on_a_sides_bound(self):
        self.assertEqual(dual(2, [1, 1, 0, 1], shapes.TRIANGLE), [-6])
        self.assertEqual(dual(2, [2, 1, 2, 1], shapes.TRIANGLE), [-6])
        self.assertEqual(dual(2, [4, 3, 8, 3], shapes.TRIANGLE), [-6])
        self.assertEqual(dual(2, [0, 7, 1, 3], shapes.TRIANGLE), [-6])
        for third in ([0, 5], [1, 1], [1000, 1000]):
            self.assertEqual(dual(3, [1, 2, 1, 3] + third, shapes.CUBE), [-6])
            self.assertEqual(dual(3, third + [1, 2, 1, 3], shapes.CUBE), [-6])
        self.assertEqual(dual(3, [1, 2, 1, 3, 1, 6], shapes.OCTAHEDRON), [-6])
        self.assertEqual(dual(4, [1, 4] * 4, shapes.SIMPLEX), [-6])
        self.assertEqual(dual(4, [1, 4] * 3 + [0, 1], shapes.SIMPLEX), [-6])
        self.assertEqual(dual(4, [-1, 4] * 4, shapes.CROSS), [-6])

    def test_outside(self):
        self.assertEqual(dual(2, [3, 1, 3, 1], shapes.TRIANGLE), [-6])
        self.assertEqual(dual(2, [-1, 1, 2, 1], shapes.TRIANGLE), [-6])
        self.assertEqual(dual(2, [2, 1, -1, 1000], shapes.TRIANGLE), [-6])
        # On what the bound of a side is further on, but outside.
        self.assertEqual(dual(2, [6, 1, -2, 1], shapes.TRIANGLE), [-6])
        self.assertEqual(dual(2, [0, 1, -3, 1], shapes.TRIANGLE), [-6])
        self.assertEqual(dual(3, [1, 2, 1, 2, 1001, 1000], shapes.CUBE), [-6])
        self.assertEqual(dual(3, [1, 2, 1, 2, 1000, 999], shapes.CUBE), [-6])
        self.assertEqual(dual(4, [1, 4] * 3 + [251, 1000], shapes.CROSS), [-6])
        self.assertEqual(dual(4, [1, 1] * 4, shapes.SIMPLEX), [-6])

    def test_hardly_within(self):
        self.assertEqual(dual(2, [1, 1000, 1, 1000], shapes.TRIANGLE)[0], 3)
        self.assertEqual(dual(2, [1999, 1000, 2, 1], shapes.TRIANGLE)[0], 3)
        self.assertEqual(dual(2, [2001, 1000, 2, 1], shapes.TRIANGLE), [-6])
        self.assertEqual(dual(3, [1, 2, 1, 2, 999, 1000], shapes.CUBE)[0], 6)
        self.assertEqual(dual(4, [1, 4] * 3 + [249, 1000], shapes.CROSS)[0], 16)

    def test_ahead_of_a_place_that_is_not_within(self):
        for n in (2, 3, 4):
            self.assertEqual(dual(n, [50, 1] * n, FULL[n]), [-6])
            for place in ([50, 1] * (n - 1), [50, 1] * (n + 1), [50, 0] + [50, 1] * (n - 1), [50, 1001] * n,
                          [100001, 1] * n, [0, 1] * (n - 1) + [0, 0], [-50, -1] * n):
                self.assertEqual(dual(n, place, FULL[n]), [-4])


class OfFaceBesides(unittest.TestCase):
    def test_dimension(self):
        for n in (2, 3, 4):
            for dimension in (-FAR, -2, -1, n, n + 1, FAR):
                for which in (0, 1):
                    self.assertEqual(face(n, dimension, which, FULL[n]), [-4])
            for dimension in range(n):
                self.assertEqual(face(n, dimension, 0, FULL[n]), [dimension + 1] + list(range(dimension + 1)))

    def test_number(self):
        for n, points in FULL.items():
            for dimension in range(n):
                many = faces(n, points)[dimension]
                for which in (-FAR, -many, -2, -1, many, many + 1, FAR):
                    self.assertEqual(face(n, dimension, which, points), [-4])
                self.assertGreater(face(n, dimension, many - 1, points)[0], 0)

    def test_both(self):
        self.assertEqual(face(3, -1, -1, shapes.CUBE), [-4])
        self.assertEqual(face(3, 3, 8, shapes.CUBE), [-4])


if __name__ == "__main__":
    unittest.main()
