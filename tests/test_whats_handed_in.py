"""What is handed in stays as it was, all along; what is given back is a new list of plain numbers each time."""

import copy
import inspect
import unittest

from alikebodies.bodies import alike, dual, face, faces, on, over, ways
from tests import shapes


def forbidden(self, *given, **named):
    raise AssertionError("what was handed in is being changed")


class Kept(list):
    """A list that can't be changed."""

    append = extend = insert = remove = pop = clear = sort = reverse = forbidden
    __setitem__ = __delitem__ = __iadd__ = __imul__ = forbidden


CORNERS = [[], [0], [0, 1], [0, 1, 2], [0, 1, 2, 3, 4, 5], [1, 0], [2, 2], [-1], list(range(20))]
PLACES = [[], [0, 1], [1, 5] * 2, [3, 2] * 2, [1, 5] * 3, [2, 10] * 4, [1, 0] * 4, [0, 1001] * 2, [9, 1] * 6]
CALLS = [
    lambda n, points: faces(n, points),
    lambda n, points: face(n, 0, 0, points),
    lambda n, points: face(n, n - 1, 1, points),
    lambda n, points: face(n, n, 1, points),
    lambda n, points: face(n, 0, -1, points),
    lambda n, points: on(n, [0, 1], points),
    lambda n, points: on(n, [1, 0], points),
    lambda n, points: over(n, [], points),
    lambda n, points: over(n, [1], points),
    lambda n, points: over(n, [0, 3], points),
    lambda n, points: alike(n, len(points), points + points[::-1]),
    lambda n, points: alike(n, len(points) // 2, points),
    lambda n, points: alike(n, -1, points),
    lambda n, points: ways(n, points),
    lambda n, points: dual(n, [1, 5] * n, points),
    lambda n, points: dual(n, [0, 1] * n, points),
    lambda n, points: dual(n, [1, 0] * n, points),
]
REFUSED = [(5, shapes.SIMPLEX), (2, []), (2, [[0, 0]] * 11), (3, [[0, 0, 101], []]), (2, [[3, 3], [2, 2], [1, 1]])]


class HandedIn(unittest.TestCase):
    def cases(self):
        for name, n, points, answer in shapes.KNOWN:
            yield n, points[::-1] + points[:10 - len(points)]
        for n, points in REFUSED:
            yield n, points

    def test_stays_as_it_was(self):
        for n, points in self.cases():
            before = copy.deepcopy(points)
            for call in CALLS:
                call(n, points)
                self.assertEqual(points, before)

    def test_is_not_changed_for_a_while_either(self):
        for n, points in self.cases():
            kept = Kept([Kept(point) for point in points])
            for call in CALLS:
                self.assertEqual(call(n, kept), call(n, points))

    def test_two_bodies(self):
        for n, points in self.cases():
            both = points + [[-number for number in point] for point in points]
            before = copy.deepcopy(both)
            kept = Kept([Kept(point) for point in both])
            for how_many in (len(points), 0, len(both), -1, len(both) + 1, n + 1):
                self.assertEqual(alike(n, how_many, kept), alike(n, how_many, both))
                self.assertEqual(both, before)

    def test_corners(self):
        for n, points in self.cases():
            for corners in CORNERS:
                before = list(corners)
                kept = Kept(corners)
                for call in (on, over):
                    self.assertEqual(call(n, kept, points), call(n, corners, points))
                    self.assertEqual(corners, before)


    def test_places(self):
        for n, points in self.cases():
            for place in PLACES:
                before = list(place)
                kept = Kept(place)
                self.assertEqual(dual(n, kept, points), dual(n, place, points))
                self.assertEqual(place, before)


class GivenBack(unittest.TestCase):
    def test_a_list_of_whole_numbers(self):
        for n, points in HandedIn().cases():
            for call in CALLS:
                answer = call(n, points)
                self.assertIs(type(answer), list)
                self.assertTrue(all(type(number) is int for number in answer))

    def test_nothing_is_kept_from_one_call_to_the_next(self):
        for call in CALLS:
            first = [call(n, points) for n, points in HandedIn().cases()]
            for answer in [call(n, points) for n, points in HandedIn().cases()]:
                answer.append("spoilt")
            self.assertEqual([call(n, points) for n, points in HandedIn().cases()], first)

    def test_points_changed_between_calls(self):
        points = [[0, 0], [4, 0], [0, 4]]
        self.assertEqual(faces(2, points), [3, 3, 1, 1])
        points.append([4, 4])
        self.assertEqual(faces(2, points), [4, 4, 1, 1])
        self.assertEqual(on(2, [1, 2], points), [0, 2, 4, 0, 1, 2, 3])
        self.assertEqual(over(2, [3], points), [2, 2, 1, 3, 2, 2, 3])
        self.assertEqual(ways(2, points), [8])
        self.assertEqual(alike(2, 4, points + shapes.SQUARE), [8, 0, 1, 2, 3])
        self.assertEqual(dual(2, [2, 1, 2, 1], points)[0], 4)
        points[3][0] = 0
        self.assertEqual(faces(2, points), [3, 3, 1, 1])
        self.assertEqual(on(2, [1, 2], points), [1, 1, 2, 1, 2])
        self.assertEqual(over(2, [3], points), [-4])
        self.assertEqual(ways(2, points), [6])
        self.assertEqual(alike(2, 4, points + shapes.SQUARE), [0])
        self.assertEqual(dual(2, [2, 1, 2, 1], points), [-6])

    def test_place_changed_between_calls(self):
        place = [1, 1, 1, 1]
        first = dual(2, place, shapes.TRIANGLE)
        place[1] = 2
        self.assertNotEqual(dual(2, place, shapes.TRIANGLE), first)
        place[1] = 0
        self.assertEqual(dual(2, place, shapes.TRIANGLE), [-4])
        place[1] = 1
        self.assertEqual(dual(2, place, shapes.TRIANGLE), first)

    def test_corners_changed_between_calls(self):
        corners = [0, 1]
        self.assertEqual(over(2, corners, shapes.TRIANGLE), [1, 3, 0, 1, 2])
        self.assertEqual(on(2, corners, shapes.TRIANGLE), [1, 1, 2, 0, 1])
        corners.append(2)
        self.assertEqual(over(2, corners, shapes.TRIANGLE), [0])
        self.assertEqual(on(2, corners, shapes.TRIANGLE), [1, 2, 3, 0, 1, 2])


class Interface(unittest.TestCase):
    """The names of the arguments, in their order; none has a default."""

    def test_each_call(self):
        for call, names in ((faces, ["n", "points"]), (face, ["n", "dimension", "which", "points"]),
                            (on, ["n", "corners", "points"]), (over, ["n", "corners", "points"]),
                            (alike, ["n", "how_many", "points"]), (ways, ["n", "points"]),
                            (dual, ["n", "place", "points"])):
            given = inspect.signature(call).parameters
            self.assertEqual(list(given), names)
            self.assertTrue(all(part.default is part.empty for part in given.values()))
            self.assertEqual(call.__module__, "alikebodies.bodies")


if __name__ == "__main__":
    unittest.main()
