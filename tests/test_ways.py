"""ways: in how many ways a body is alike to itself."""

import sys
import unittest
from itertools import permutations

from alikebodies.bodies import alike, faces, ways
from tests import shapes
from tests.ways_by_trial import all_ways, sides_bounds

# Rows of ten numbers, each once: as many as that aren't to be tried.
ROWS_OF_TEN = 3628800


def steps_of(call):
    """How many functions, Python's own among them, are called on the way."""
    steps = [0]

    def count(frame, event, given):
        if event in ("call", "c_call"):
            steps[0] += 1

    before = sys.getprofile()
    sys.setprofile(count)
    try:
        call()
    finally:
        sys.setprofile(before)
    return steps[0]


class KnownBodies(unittest.TestCase):
    def test_each_known_body(self):
        for name, n, points, many in shapes.WAYS:
            with self.subTest(name):
                self.assertEqual(ways(n, points), [many])

    def test_by_hand(self):
        self.assertEqual(ways(2, shapes.TRIANGLE), [6])
        self.assertEqual(ways(2, shapes.SQUARE), [8])
        self.assertEqual(ways(2, shapes.PENTAGON), [10])
        self.assertEqual(ways(3, shapes.TETRAHEDRON), [24])
        self.assertEqual(ways(3, shapes.CUBE), [48])
        self.assertEqual(ways(3, shapes.OCTAHEDRON), [48])
        self.assertEqual(ways(3, shapes.SQUARE_PYRAMID), [8])
        self.assertEqual(ways(4, shapes.SIMPLEX), [120])
        self.assertEqual(ways(4, shapes.CROSS), [384])

    def test_no_way_but_one(self):
        self.assertEqual(ways(3, shapes.LOPSIDED), [1])
        self.assertEqual(ways(4, shapes.LOPSIDED_IN_FOUR), [1])
        self.assertEqual(ways(4, shapes.OTHERWISE_LOPSIDED), [1])

    def test_each_of_as_many_corners(self):
        for many in range(3, 11):
            self.assertEqual(ways(2, shapes.DECAGON[:many]), [2 * many])

    def test_crooked_ones_too(self):
        # No two edges of these are as long, no two corners as wide.
        self.assertEqual(ways(2, [[0, 0], [7, 1], [100, 3]]), [6])
        self.assertEqual(ways(2, [[0, 0], [1, 5], [6, 1], [7, -20]]), [8])
        self.assertEqual(ways(3, [[0, 0, 0], [7, 1, 2], [100, 3, 5], [1, -9, 80]]), [24])
        self.assertEqual(ways(3, [[0, 0, 0], [6, 0, 0], [0, 6, 0], [0, 0, 6], [4, 4, 0], [4, 0, 4], [0, 4, 4],
                                  [3, 3, 3]]), [48])

    def test_all_rows_tried(self):
        for n, points in [(n, points) for name, n, points, many in shapes.WAYS] + [(3, shapes.LOPSIDED),
                                                                                 (3, shapes.HARDLY_LOPSIDED)]:
            many = faces(n, points)[0]
            if many <= 7:
                with self.subTest(n=n, points=points):
                    bounds = sides_bounds(n, points)
                    self.assertEqual(ways(n, points), [len(all_ways(many, bounds, bounds))])


class WhichPointsAreHandedIn(unittest.TestCase):
    def test_points_that_are_no_corners(self):
        self.assertEqual(ways(2, shapes.TRIANGLE + [[1, 1], [2, 0]]), [6])
        self.assertEqual(ways(3, shapes.OCTAHEDRON + [[0, 0, 0]]), [48])
        self.assertEqual(ways(3, shapes.SQUARE_PYRAMID + [[1, 1, 0], [1, 0, 0], [1, 1, 1]]), [8])
        self.assertEqual(ways(4, [[0, 0, 0, 0]] + shapes.CROSS), [384])

    def test_points_handed_in_twice(self):
        self.assertEqual(ways(2, shapes.TRIANGLE * 3), [6])
        self.assertEqual(ways(3, shapes.SQUARE_PYRAMID * 2), [8])
        self.assertEqual(ways(3, shapes.CUBE + shapes.CUBE[:2]), [48])
        self.assertEqual(ways(4, shapes.SIMPLEX * 2), [120])

    def test_any_order_of_points(self):
        for points in permutations(shapes.SQUARE_PYRAMID):
            self.assertEqual(ways(3, list(points)), [8])


class Soon(unittest.TestCase):
    """Of bodies with ten corners the answer is there after far fewer steps than there are rows."""

    def test_each_body_with_ten_corners(self):
        some = [(name, n, points, many) for name, n, points, many in shapes.WAYS if faces(n, points)[0] == 10]
        self.assertEqual(len(some), 9)
        for name, n, points, many in some:
            with self.subTest(name):
                self.assertLess(steps_of(lambda: ways(n, points)), ROWS_OF_TEN // 5)

    def test_two_bodies_with_ten_corners(self):
        for n in (3, 4):
            some = [points for name, other, points, many in shapes.WAYS if other == n and faces(n, points)[0] == 10]
            for one in some:
                for other in some:
                    with self.subTest(one=one, other=other):
                        steps = steps_of(lambda: alike(n, 10, one + other))
                        self.assertLess(steps, ROWS_OF_TEN // 5)


if __name__ == "__main__":
    unittest.main()
