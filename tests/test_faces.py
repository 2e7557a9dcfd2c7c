"""faces: how many faces of each dimension, simple, simplicial; and which points are corners."""

import unittest
from itertools import permutations

from alikebodies.bodies import face, faces
from tests import shapes


class KnownBodies(unittest.TestCase):
    def test_each_known_body(self):
        for name, n, points, answer in shapes.KNOWN:
            with self.subTest(name):
                self.assertEqual(faces(n, points), answer)

    def test_moved_and_stretched(self):
        for name, n, points, answer in shapes.KNOWN:
            if max(abs(number) for point in points for number in point) > 10:
                continue
            moved = [[3 * number - 60 + place for place, number in enumerate(point)] for point in points]
            with self.subTest(name):
                self.assertEqual(faces(n, moved), answer)

    def test_slanted(self):
        for name, n, points, answer in shapes.KNOWN:
            if max(abs(number) for point in points for number in point) > 10:
                continue
            slanted = [point[:-1] + [point[-1] + 2 * point[0]] for point in points]
            with self.subTest(name):
                self.assertEqual(faces(n, slanted), answer)

    def test_the_farthest_numbers(self):
        corners = [[100, 100, 100], [100, -100, -100], [-100, 100, -100], [-100, -100, 100]]
        self.assertEqual(faces(3, corners), [4, 6, 4, 1, 1])
        self.assertEqual(faces(2, [[-100, -100], [100, 100], [100, 99]]), [3, 3, 1, 1])

    def test_a_corner_that_hardly_stands_out(self):
        self.assertEqual(faces(2, [[-100, 0], [100, 0], [0, 100], [1, -1]]), [4, 4, 1, 1])
        self.assertEqual(faces(2, [[-100, -100], [100, 99], [-100, 100], [99, 98]]), [4, 4, 1, 1])

    def test_a_point_hardly_within(self):
        self.assertEqual(faces(2, [[-100, -100], [100, 99], [-100, 100], [-99, -99]]), [3, 3, 1, 1])

    def test_sides_of_different_counts(self):
        # A cube with one corner cut off by hand: sides of 3, 4 and 5 corners; each corner on 3 sides.
        cut = [[0, 0, 0], [2, 0, 0], [0, 2, 0], [0, 0, 2], [2, 2, 0], [2, 0, 2], [0, 2, 2],
               [2, 2, 1], [2, 1, 2], [1, 2, 2]]
        self.assertEqual(faces(3, cut), [10, 15, 7, 1, 0])

    def test_simplicial_with_corners_on_more_sides(self):
        # Two corners over and under a triangle: all sides are triangles, two corners on 3 sides, three on 4.
        self.assertEqual(faces(3, [[0, 0, 0], [6, 0, 0], [0, 6, 0], [2, 2, 5], [2, 2, -5]]), [5, 9, 6, 0, 1])


class WhichPointsAreCorners(unittest.TestCase):
    def test_handed_in_twice(self):
        self.assertEqual(faces(2, shapes.TRIANGLE + shapes.TRIANGLE), [3, 3, 1, 1])
        self.assertEqual(faces(2, shapes.TRIANGLE * 3), [3, 3, 1, 1])
        self.assertEqual(faces(3, shapes.CUBE + [[0, 0, 0], [1, 1, 1]]), [8, 12, 6, 1, 0])
        self.assertEqual(faces(4, shapes.SIMPLEX * 2), [5, 10, 10, 5, 1, 1])

    def test_between_others_handed_in_twice(self):
        self.assertEqual(faces(2, shapes.TRIANGLE + [[1, 1], [1, 1], [2, 0], [2, 0]]), [3, 3, 1, 1])

    def test_on_an_edge(self):
        self.assertEqual(faces(2, shapes.TRIANGLE + [[2, 0], [1, 3], [0, 1]]), [3, 3, 1, 1])
        self.assertEqual(faces(3, shapes.SQUARE_PYRAMID + [[1, 0, 0], [2, 1, 0]]), [5, 8, 5, 0, 0])
        self.assertEqual(faces(4, [[0, 0, 0, 0], [4, 0, 0, 0], [0, 4, 0, 0], [0, 0, 4, 0], [0, 0, 0, 4],
                                   [2, 0, 0, 0], [0, 0, 1, 3]]), [5, 10, 10, 5, 1, 1])

    def test_on_a_side(self):
        self.assertEqual(faces(3, shapes.SQUARE_PYRAMID + [[1, 1, 0]]), [5, 8, 5, 0, 0])
        self.assertEqual(faces(3, [[0, 0, 0], [4, 0, 0], [0, 4, 0], [0, 0, 4], [1, 1, 2], [1, 1, 0]]),
                         [4, 6, 4, 1, 1])

    def test_within(self):
        self.assertEqual(faces(2, shapes.SQUARE + [[1, 1]]), [4, 4, 1, 1])
        self.assertEqual(faces(3, shapes.OCTAHEDRON + [[0, 0, 0]]), [6, 12, 8, 0, 1])
        self.assertEqual(faces(4, shapes.CROSS + [[0, 0, 0, 0]]), [8, 24, 32, 16, 0, 1])

    def test_such_points_get_no_number(self):
        points = [[2, 0], [0, 0], [1, 1], [0, 4], [0, 2], [4, 0], [4, 0]]
        self.assertEqual([face(2, 0, k, points) for k in range(4)], [[1, 0], [1, 1], [1, 2], [-4]])
        self.assertEqual([face(2, 1, k, points) for k in range(4)], [[2, 0, 1], [2, 0, 2], [2, 1, 2], [-4]])

    def test_any_order_of_points(self):
        for points in permutations(shapes.SQUARE_PYRAMID):
            self.assertEqual(faces(3, list(points)), [5, 8, 5, 0, 0])
        for name, n, points, answer in shapes.KNOWN:
            with self.subTest(name):
                self.assertEqual(faces(n, points[::-1]), answer)
                self.assertEqual(faces(n, points[2:] + points[:2]), answer)


if __name__ == "__main__":
    unittest.main()
