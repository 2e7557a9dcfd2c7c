"""face: the faces of one dimension, their corners' numbers and their order."""

import unittest
from itertools import permutations

from alikebodies.bodies import face, faces
from tests import shapes


def all_of(n, dimension, points):
    """Every face of this dimension, as face tells them one by one."""
    found = []
    while True:
        row = face(n, dimension, len(found), points)
        if row == [-4]:
            return found
        found.append(row)


class Order(unittest.TestCase):
    def test_the_documents_example(self):
        self.assertEqual(face(2, 1, 0, [[0, 0], [4, 0], [0, 4]]), [2, 0, 1])

    def test_triangle(self):
        self.assertEqual(all_of(2, 0, shapes.TRIANGLE), [[1, 0], [1, 1], [1, 2]])
        self.assertEqual(all_of(2, 1, shapes.TRIANGLE), [[2, 0, 1], [2, 0, 2], [2, 1, 2]])

    def test_corners_are_numbered_by_the_first_number_that_differs(self):
        # In order: (-3, 9), (0, -5), (0, 7), (2, -9): the edges tell which is which.
        points = [[2, -9], [0, 7], [-3, 9], [0, -5]]
        self.assertEqual(all_of(2, 1, points), [[2, 0, 1], [2, 0, 2], [2, 1, 3], [2, 2, 3]])

    def test_numbers_are_compared_as_numbers(self):
        # In order: (-10, 0), (-9, 5), (9, 5), (10, 0): as texts they would stand otherwise.
        points = [[9, 5], [10, 0], [-9, 5], [-10, 0]]
        self.assertEqual(all_of(2, 1, points), [[2, 0, 1], [2, 0, 3], [2, 1, 2], [2, 2, 3]])

    def test_cube(self):
        self.assertEqual(all_of(3, 0, shapes.CUBE), [[1, k] for k in range(8)])
        self.assertEqual(all_of(3, 1, shapes.CUBE), [
            [2, 0, 1], [2, 0, 2], [2, 0, 4], [2, 1, 3], [2, 1, 5], [2, 2, 3],
            [2, 2, 6], [2, 3, 7], [2, 4, 5], [2, 4, 6], [2, 5, 7], [2, 6, 7]])
        self.assertEqual(all_of(3, 2, shapes.CUBE), [
            [4, 0, 1, 2, 3], [4, 0, 1, 4, 5], [4, 0, 2, 4, 6],
            [4, 1, 3, 5, 7], [4, 2, 3, 6, 7], [4, 4, 5, 6, 7]])

    def test_those_of_fewer_corners_first(self):
        # In order: (0, 0, 0), (0, 2, 0), (1, 1, 3), (2, 0, 0), (2, 2, 0); the square is 0 1 3 4.
        self.assertEqual(all_of(3, 2, shapes.SQUARE_PYRAMID), [
            [3, 0, 1, 2], [3, 0, 2, 3], [3, 1, 2, 4], [3, 2, 3, 4], [4, 0, 1, 3, 4]])

    def test_those_of_fewer_corners_first_in_four_dimensions(self):
        rows = all_of(4, 3, shapes.CUBE_PYRAMID)
        self.assertEqual([row[0] for row in rows], [5, 5, 5, 5, 5, 5, 8])
        # The apex (1, 1, 1, 1) is number 4, behind the four corners whose first number is 0.
        self.assertEqual(rows[0], [5, 0, 1, 2, 3, 4])
        self.assertEqual(rows[6], [8, 0, 1, 2, 3, 5, 6, 7, 8])
        self.assertEqual([row[0] for row in all_of(4, 2, shapes.CUBE_PYRAMID)], [3] * 12 + [4] * 6)

    def test_cross_body(self):
        # Opposite corners are 0 and 7, 1 and 6, 2 and 5, 3 and 4: a face has never both.
        def taken(size):
            rows = [[]]
            for step in range(size):
                rows = [row + [k] for row in rows for k in range(row[-1] + 1 if row else 0, 8)]
            return [[size] + row for row in rows if not any(7 - k in row for k in row)]

        for dimension in range(4):
            self.assertEqual(all_of(4, dimension, shapes.CROSS), taken(dimension + 1))

    def test_any_order_of_points(self):
        for points in permutations(shapes.TRIANGLE + [[1, 1]]):
            self.assertEqual(all_of(2, 1, list(points)), [[2, 0, 1], [2, 0, 2], [2, 1, 2]])


class FirstLastAndBeyond(unittest.TestCase):
    def test_each_dimension_of_each_known_body(self):
        for name, n, points, answer in shapes.KNOWN:
            for dimension in range(n):
                with self.subTest(name, dimension=dimension):
                    rows = all_of(n, dimension, points)
                    self.assertEqual(len(rows), answer[dimension])
                    self.assertEqual(face(n, dimension, answer[dimension], points), [-4])
                    self.assertTrue(all(row[0] == len(row) - 1 for row in rows))
                    self.assertEqual(rows, sorted(rows))

    def test_cube(self):
        self.assertEqual(face(3, 0, 0, shapes.CUBE), [1, 0])
        self.assertEqual(face(3, 0, 7, shapes.CUBE), [1, 7])
        self.assertEqual(face(3, 0, 8, shapes.CUBE), [-4])
        self.assertEqual(face(3, 1, 0, shapes.CUBE), [2, 0, 1])
        self.assertEqual(face(3, 1, 11, shapes.CUBE), [2, 6, 7])
        self.assertEqual(face(3, 1, 12, shapes.CUBE), [-4])
        self.assertEqual(face(3, 2, 0, shapes.CUBE), [4, 0, 1, 2, 3])
        self.assertEqual(face(3, 2, 5, shapes.CUBE), [4, 4, 5, 6, 7])
        self.assertEqual(face(3, 2, 6, shapes.CUBE), [-4])

    def test_simplex(self):
        self.assertEqual(face(4, 0, 0, shapes.SIMPLEX), [1, 0])
        self.assertEqual(face(4, 0, 4, shapes.SIMPLEX), [1, 4])
        self.assertEqual(face(4, 1, 9, shapes.SIMPLEX), [2, 3, 4])
        self.assertEqual(face(4, 2, 9, shapes.SIMPLEX), [3, 2, 3, 4])
        self.assertEqual(face(4, 3, 0, shapes.SIMPLEX), [4, 0, 1, 2, 3])
        self.assertEqual(face(4, 3, 4, shapes.SIMPLEX), [4, 1, 2, 3, 4])
        self.assertEqual([face(4, d, faces(4, shapes.SIMPLEX)[d], shapes.SIMPLEX) for d in range(4)], [[-4]] * 4)


if __name__ == "__main__":
    unittest.main()
