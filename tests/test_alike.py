"""alike: in how many ways two bodies are alike, and the first of the ways."""

import unittest
from itertools import combinations, permutations

from alikebodies.bodies import alike, faces, ways
from tests import shapes
from tests.ways_by_trial import is_way, sides_bounds, tried

# What stays from -100 to 100 when it's changed.
FAR = 10


def of(n, one, other):
    return alike(n, len(one), one + other)


def moved(point):
    return [number + 5 - 3 * place for place, number in enumerate(point)]


def stretched(point):
    return [(3 - place) * number if place < 3 else 2 * number for place, number in enumerate(point)]


def mirrored(point):
    return [-point[0]] + point[1:]


def turned(point):
    """The first number behind the others, each other one place ahead."""
    return point[1:] + point[:1]


def slanted(point):
    return [point[0] - 2 * point[1]] + point[1:-1] + [point[-1] + point[0]]


MAPS = [moved, stretched, mirrored, turned, slanted, lambda point: slanted(turned(moved(slanted(mirrored(point)))))]


def crooked(points):
    """The body seen askew: straight lines stay straight, but what went side by side meets somewhere.

    Only for points whose numbers are 0 or 1, or all from -1 to 1; 60 is divided by 1 to 5 without a rest.
    """
    if min(min(point) for point in points) < 0:
        return [[60 * number // (2 + point[0]) for number in point] for point in points]
    return [[60 * number // (1 + sum(point)) for number in point] for point in points]


def row_of_map(change, points):
    """For each corner, in order, which corner it becomes; all points are to be corners."""
    there = sorted(change(point) for point in points)
    return [there.index(change(point)) for point in sorted(points)]


class ItselfChanged(unittest.TestCase):
    def is_told_as_well(self, n, points, other, many):
        """alike of a body and another one that has just as many ways as it has itself; the first way is one."""
        answer = of(n, points, other)
        self.assertEqual(answer[0], many)
        self.assertEqual(len(answer), 1 + faces(n, points)[0])
        self.assertEqual(sorted(answer[1:]), list(range(len(answer) - 1)))
        self.assertTrue(is_way(answer[1:], sides_bounds(n, points), sides_bounds(n, other)))
        return answer[1:]

    def test_itself(self):
        # The first row of all leaves each corner where it is.
        for name, n, points, many in shapes.WAYS:
            with self.subTest(name):
                self.assertEqual(of(n, points, points), [many] + list(range(faces(n, points)[0])))
                self.assertEqual(of(n, points, points[::-1]), [many] + list(range(faces(n, points)[0])))

    def test_moved_stretched_turned_slanted(self):
        for name, n, points, many in shapes.WAYS:
            if max(abs(number) for point in points for number in point) > FAR:
                continue
            # The last one is all the others at once.
            for change in MAPS if many < 50 else MAPS[-1:]:
                with self.subTest(name, change=change):
                    row = self.is_told_as_well(n, points, [change(point) for point in points], many)
                    self.assertLessEqual(row, row_of_map(change, points))

    def test_crooked(self):
        for n, points, many in ((2, shapes.SQUARE, 8), (3, shapes.CUBE, 48), (3, shapes.OCTAHEDRON, 48),
                                (3, shapes.TETRAHEDRON, 24), (4, shapes.SIMPLEX, 120), (4, shapes.CROSS, 384),
                                (4, shapes.TETRAHEDRON_PRISM, 48), (4, shapes.TWO_TRIANGLES, 72),
                                (4, shapes.MIDDLES_OF_EDGES, 120)):
            with self.subTest(n=n, points=points):
                points = [[number // max(max(points)) for number in point] for point in points]
                self.is_told_as_well(n, points, crooked(points), many)
                self.is_told_as_well(n, crooked(points), points, many)

    def test_a_crooked_body_goes_no_straight_way(self):
        # Four corners on one plane's side aren't any more two pairs that run side by side.
        corners = sorted(crooked(shapes.CUBE))
        top = [corners[k] for k in range(8) if corners[k][2] > 0]
        self.assertEqual(len({point[2] for point in top}), 3)

    def test_crooked_by_hand(self):
        # Opposite are 0 and 3, 1 and 2 in the square, but 0 and 2, 1 and 3 here.
        other = [[0, 0], [1, 5], [6, 1], [7, -20]]
        self.assertEqual(of(2, shapes.SQUARE, other), [8, 0, 1, 3, 2])
        self.assertEqual(of(2, other, shapes.SQUARE), [8, 0, 1, 3, 2])

    def test_the_apex_elsewhere(self):
        # The apex is 2, and opposite are 0 and 4, 1 and 3; there it's 0, and opposite are 1 and 4, 2 and 3.
        other = [[0, 0, 0], [0, 2, 0], [2, 0, 0], [2, 2, 0], [-5, 0, 1]]
        self.assertEqual(of(3, shapes.SQUARE_PYRAMID, other), [8, 1, 2, 0, 3, 4])
        self.assertEqual(of(3, other, shapes.SQUARE_PYRAMID), [8, 2, 0, 1, 3, 4])

    def test_a_body_with_no_way_but_one(self):
        # The one way must be the very one in which the body was changed, from the first to the second.
        for n, points in ((3, shapes.LOPSIDED), (4, shapes.LOPSIDED_IN_FOUR), (4, shapes.OTHERWISE_LOPSIDED)):
            for change in MAPS:
                with self.subTest(n=n, change=change):
                    other = [change(point) for point in points]
                    row = row_of_map(change, points)
                    back = [row.index(k) for k in range(len(row))]
                    self.assertEqual(of(n, points, other), [1] + row)
                    self.assertEqual(of(n, other, points), [1] + back)
        row = row_of_map(turned, shapes.LOPSIDED)
        self.assertNotEqual(row, [row.index(k) for k in range(len(row))])


class NotAlike(unittest.TestCase):
    def test_another_count_of_corners(self):
        for n in (2, 3, 4):
            some = [(name, points) for name, other, points, many in shapes.WAYS if other == n]
            for (name, one), (other_name, other) in permutations(some, 2):
                if faces(n, one)[0] != faces(n, other)[0]:
                    with self.subTest(name, other=other_name):
                        self.assertEqual(of(n, one, other), [0])

    def test_as_many_corners_but_another_count_of_sides(self):
        pentagon_pyramid = [point + [0] for point in shapes.PENTAGON] + [[2, 2, 3]]
        between_two = [[0, 0, 0], [6, 0, 0], [0, 6, 0], [2, 2, 5], [2, 2, -5]]
        for n, one, other in (
                (3, shapes.OCTAHEDRON, shapes.TRIANGLE_PRISM), (3, shapes.OCTAHEDRON, pentagon_pyramid),
                (3, shapes.TRIANGLE_PRISM, pentagon_pyramid), (3, shapes.SQUARE_PYRAMID, between_two),
                (3, shapes.CUT_CUBE, shapes.NINE_PYRAMID), (3, shapes.NINE_PYRAMID, shapes.OCTAGON_BOTH_WAYS),
                (4, shapes.CROSS, shapes.TETRAHEDRON_PRISM), (4, shapes.CUBE_PYRAMID, shapes.TWO_TRIANGLES),
                (4, shapes.PYRAMID_PRISM, shapes.TWICE_ROUND), (4, shapes.PENTAGON_ACROSS, shapes.TWICE_ROUND),
                (4, shapes.MIDDLES_OF_EDGES, shapes.PYRAMID_PRISM)):
            with self.subTest(one=one, other=other):
                self.assertEqual(faces(n, one)[0], faces(n, other)[0])
                self.assertNotEqual(faces(n, one)[n - 1], faces(n, other)[n - 1])
                self.assertEqual(of(n, one, other), [0])
                self.assertEqual(of(n, other, one), [0])

    def test_as_many_corners_and_sides(self):
        # Both simple, ten corners and seven sides each, but one has two sides of five corners and the other one three.
        self.assertEqual(faces(3, shapes.CUT_CUBE), faces(3, shapes.PENTAGON_PRISM))
        self.assertEqual(of(3, shapes.CUT_CUBE, shapes.PENTAGON_PRISM), [0])
        self.assertEqual(of(3, shapes.PENTAGON_PRISM, shapes.CUT_CUBE), [0])

    def test_as_many_of_everything(self):
        for n, one, ways_of_one, other, ways_of_other in shapes.SAME_COUNTS:
            with self.subTest(one=one, other=other):
                self.assertEqual(faces(n, one), faces(n, other))
                counts = [sorted(map(len, sides_bounds(n, points))) for points in (one, other)]
                self.assertEqual(counts[0], counts[1])
                self.assertEqual(of(n, one, other), [0])
                self.assertEqual(of(n, other, one), [0])
                self.assertEqual(of(n, one, one)[0], ways_of_one)
                self.assertEqual(of(n, other, other)[0], ways_of_other)


class TheFirstOfAllRows(unittest.TestCase):
    """Against all rows, tried one by one."""

    def test_each_two_small_bodies(self):
        for n in (2, 3, 4):
            some = [(name, points) for name, other, points, many in shapes.WAYS
                    if other == n and faces(n, points)[0] <= 6]
            some += [(name, points[::-1]) for name, points in some]
            for (name, one), (other_name, other) in combinations(some, 2):
                with self.subTest(name, other=other_name):
                    self.assertEqual(of(n, one, other), tried(n, one, other))

    def test_changed_ones(self):
        for n, points in ((2, shapes.PENTAGON), (3, shapes.TRIANGLE_PRISM), (3, shapes.OCTAHEDRON),
                          (3, shapes.SQUARE_PYRAMID), (3, shapes.HARDLY_LOPSIDED), (4, shapes.SIMPLEX)):
            for change in MAPS:
                with self.subTest(points=points, change=change):
                    other = [change(point) for point in points]
                    self.assertEqual(of(n, points, other), tried(n, points, other))
                    self.assertEqual(of(n, other, points), tried(n, other, points))

    def test_eight_corners(self):
        for n, one, other in ((3, shapes.CUBE, crooked(shapes.CUBE)),
                              (4, shapes.CROSS, [slanted(point) for point in shapes.CROSS])):
            self.assertEqual(of(n, one, other), tried(n, one, other))


class WhichPointsAreHandedIn(unittest.TestCase):
    def test_points_that_are_no_corners(self):
        within = [[1, 1], [2, 0], [0, 1]]
        self.assertEqual(of(2, shapes.TRIANGLE + within, shapes.TRIANGLE), [6, 0, 1, 2])
        self.assertEqual(of(2, shapes.TRIANGLE, within + shapes.TRIANGLE), [6, 0, 1, 2])
        self.assertEqual(of(2, within + shapes.TRIANGLE, shapes.TRIANGLE + within), [6, 0, 1, 2])
        octahedron = [[0, 0, 0]] + shapes.OCTAHEDRON
        self.assertEqual(of(3, octahedron, shapes.OCTAHEDRON), [48, 0, 1, 2, 3, 4, 5])
        self.assertEqual(of(3, shapes.OCTAHEDRON, octahedron), [48, 0, 1, 2, 3, 4, 5])
        self.assertEqual(of(4, shapes.CROSS + [[0, 0, 0, 0]], [[0, 0, 0, 0]] + shapes.CROSS), [384] + list(range(8)))
        # As many points, but not as many corners.
        self.assertEqual(of(2, shapes.SQUARE, shapes.TRIANGLE + [[1, 1]]), [0])
        self.assertEqual(of(2, shapes.TRIANGLE + [[2, 2]], shapes.SQUARE), [0])

    def test_points_handed_in_twice(self):
        self.assertEqual(of(2, shapes.TRIANGLE * 3, shapes.TRIANGLE), [6, 0, 1, 2])
        self.assertEqual(of(2, shapes.TRIANGLE, shapes.TRIANGLE * 3), [6, 0, 1, 2])
        self.assertEqual(of(2, shapes.TRIANGLE * 2, shapes.SQUARE * 2), [0])
        self.assertEqual(of(3, shapes.SQUARE_PYRAMID * 2, shapes.SQUARE_PYRAMID[::-1] * 2), [8, 0, 1, 2, 3, 4])
        self.assertEqual(of(4, shapes.SIMPLEX + shapes.SIMPLEX[:2], shapes.SIMPLEX * 2), [120, 0, 1, 2, 3, 4])

    def test_where_the_first_body_ends(self):
        points = shapes.TRIANGLE + [[4, 4]] + shapes.TRIANGLE
        self.assertEqual(alike(2, 3, points), [0])
        self.assertEqual(alike(2, 4, points), [0])
        self.assertEqual(alike(2, 3, shapes.TRIANGLE + shapes.SQUARE), [0])
        self.assertEqual(alike(2, 4, shapes.SQUARE + shapes.SQUARE), [8, 0, 1, 2, 3])

    def test_any_order_of_points(self):
        for points in permutations(shapes.SQUARE):
            self.assertEqual(of(2, list(points), [[0, 0], [1, 5], [6, 1], [7, -20]]), [8, 0, 1, 3, 2])
            self.assertEqual(of(2, [[0, 0], [1, 5], [6, 1], [7, -20]], list(points)), [8, 0, 1, 3, 2])

    def test_as_many_points_as_there_may_be(self):
        self.assertEqual(of(2, shapes.DECAGON, shapes.DECAGON), [20] + list(range(10)))
        self.assertEqual(of(4, shapes.TWICE_ROUND, shapes.TWICE_ROUND), [20] + list(range(10)))


class AgreesWithWays(unittest.TestCase):
    def test_as_many_as_ways_tells(self):
        for name, n, points, many in shapes.WAYS:
            self.assertEqual(of(n, points, points)[:1], ways(n, points))


if __name__ == "__main__":
    unittest.main()
