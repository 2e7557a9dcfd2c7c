"""What is handed in stays as it was, all along; what is given back is a new list of plain numbers each time."""

import copy
import unittest

from alikebodies.bodies import face, faces
from tests import shapes


def forbidden(self, *given, **named):
    raise AssertionError("what was handed in is being changed")


class Kept(list):
    """A list that can't be changed."""

    append = extend = insert = remove = pop = clear = sort = reverse = forbidden
    __setitem__ = __delitem__ = __iadd__ = __imul__ = forbidden


CALLS = [
    lambda n, points: faces(n, points),
    lambda n, points: face(n, 0, 0, points),
    lambda n, points: face(n, n - 1, 1, points),
    lambda n, points: face(n, n, 1, points),
    lambda n, points: face(n, 0, -1, points),
]
REFUSED = [(5, shapes.SIMPLEX), (2, []), (2, [[0, 0]] * 11), (3, [[0, 0, 101], []]), (2, [[3, 3], [2, 2], [1, 1]])]


class HandedIn(unittest.TestCase):
    def cases(self):
        for name, n, points, answer in shapes.KNOWN:
            yield n, points[::-1] + points[:10 - len(points)]
        for n, points in REFUSED:
            yield n, points

    def test_stays_as_it_was(self):
        for n, points in self.cases():
            before = copy.deepcopy(points)
            for call in CALLS:
                call(n, points)
                self.assertEqual(points, before)

    def test_is_not_changed_for_a_while_either(self):
        for n, points in self.cases():
            kept = Kept([Kept(point) for point in points])
            for call in CALLS:
                self.assertEqual(call(n, kept), call(n, points))


class GivenBack(unittest.TestCase):
    def test_a_list_of_whole_numbers(self):
        for n, points in HandedIn().cases():
            for call in CALLS:
                answer = call(n, points)
                self.assertIs(type(answer), list)
                self.assertTrue(all(type(number) is int for number in answer))

    def test_nothing_is_kept_from_one_call_to_the_next(self):
        for call in CALLS:
            first = [call(n, points) for n, points in HandedIn().cases()]
            for answer in [call(n, points) for n, points in HandedIn().cases()]:
                answer.append("spoilt")
            self.assertEqual([call(n, points) for n, points in HandedIn().cases()], first)

    def test_points_changed_between_calls(self):
        points = [[0, 0], [4, 0], [0, 4]]
        self.assertEqual(faces(2, points), [3, 3, 1, 1])
        points.append([4, 4])
        self.assertEqual(faces(2, points), [4, 4, 1, 1])
        points[3][0] = 0
        self.assertEqual(faces(2, points), [3, 3, 1, 1])


if __name__ == "__main__":
    unittest.main()
