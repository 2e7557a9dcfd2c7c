"""The calls about faces and ways against the words themselves, faces found without any side.

Some corners are a face's just if in some direction they are the furthest, and no others: that is, just if no
mixture of the other corners lies where the directions between these corners lead to. Such mixtures are sought
among few corners at a time, with fractions. Ways are sought among all rows of numbers.
"""

import unittest
from fractions import Fraction
from itertools import combinations

from alikebodies.bodies import alike, face, faces, on, over, ways
from tests.ways_by_trial import all_ways


def reduced(rows):
    """The rows after elimination, and the columns that lead in them."""
    rows = [[Fraction(number) for number in row] for row in rows]
    leads = []
    for column in range(len(rows[0]) if rows else 0):
        here = len(leads)
        found = [k for k in range(here, len(rows)) if rows[k][column] != 0]
        if not found:
            continue
        rows[here], rows[found[0]] = rows[found[0]], rows[here]
        rows[here] = [number / rows[here][column] for number in rows[here]]
        for k in range(len(rows)):
            if k != here:
                rows[k] = [x - rows[k][column] * y for x, y in zip(rows[k], rows[here])]
        leads.append(column)
    return rows, leads


def dimensions(points):
    if not points:
        return -1
    return len(reduced([[y - x for x, y in zip(points[0], point)] for point in points[1:]])[1])


def only_parts(columns, wanted):
    """The numbers that make what is wanted out of the columns, if there is just one choice of them; else None."""
    rows, leads = reduced([[column[k] for column in columns] + [wanted[k]] for k in range(len(wanted))])
    if leads != list(range(len(columns))):
        return None
    return [rows[k][-1] for k in range(len(columns))]


def mixture_meets(others, base, n):
    """Whether a mixture of others lies where the directions between base's points lead to."""
    spanning = []
    for point in base:
        if dimensions(spanning + [point]) > dimensions(spanning):
            spanning.append(point)
    fixed = [[-x for x in point] + [0, 1] for point in spanning]
    for size in range(1, n + 2):
        for some in combinations(others, size):
            parts = only_parts([list(point) + [1, 0] for point in some] + fixed, [0] * n + [1, 1])
            if parts is not None and all(part >= 0 for part in parts[:size]):
                return True
    return False


def by_the_words(n, points):
    """For each dimension 0 to n - 1 the rows of its faces, in order."""
    points = sorted(set(tuple(point) for point in points))
    corners = [p for p in points if not mixture_meets([q for q in points if q != p], [p], n)]
    rows = [[] for dimension in range(n)]
    for size in range(1, len(corners)):
        for chosen in combinations(range(len(corners)), size):
            base = [corners[k] for k in chosen]
            others = [corners[k] for k in range(len(corners)) if k not in chosen]
            if dimensions(base) < n and not mixture_meets(others, base, n):
                rows[dimensions(base)].append([size] + list(chosen))
    return len(corners), rows


class Chance:
    """Numbers that look like chance and are the same each time."""

    def __init__(self, seed):
        self.state = seed

    def number(self, least, most):
        self.state = (self.state * 1103515245 + 12345) % 2147483648
        return least + (self.state >> 12) % (most - least + 1)

    def points(self, n, many, reach):
        return [[self.number(-reach, reach) for place in range(n)] for k in range(many)]


class ByTheWords(unittest.TestCase):
    def agrees(self, n, points):
        many, rows = by_the_words(n, points)
        sides = rows[n - 1]
        simple = all(len([row for row in sides if k in row[1:]]) == n for k in range(many))
        simplicial = all(row[0] == n for row in sides)
        self.assertEqual(faces(n, points), [len(same) for same in rows] + [int(simple), int(simplicial)])
        for dimension in range(n):
            told = [face(n, dimension, which, points) for which in range(len(rows[dimension]))]
            self.assertEqual(told, rows[dimension])
        every = [[[0]]] + rows + [[[many] + list(range(many))]]
        self.on_agrees(n, points, every, many)
        self.over_agrees(n, points, every)
        return many, [set(row[1:]) for row in sides]

    def alike_agrees(self, n, points, many, bounds, last):
        """ways, and alike of the last body and of this one; last is None for the first one."""
        if many > 6:
            return
        self.assertEqual(ways(n, points), [len(all_ways(many, bounds, bounds))])
        if last is not None:
            other_points, other_many, other_bounds = last
            found = all_ways(many, other_bounds, bounds) if many == other_many else []
            told = alike(n, len(other_points), other_points + points)
            self.assertEqual(told, [len(found)] + (found[0] if found else []))

    def on_agrees(self, n, points, rows, many):
        """on, of some choices of corners; rows are the faces of dimensions -1 to n."""
        chance = Chance(1000 * many + sum(abs(number) for point in points for number in point))
        for turn in range(12):
            chosen = [k for k in range(many) if chance.number(0, 2) <= turn % 3]
            having = [(row[0], dimension - 1, row) for dimension, same in enumerate(rows)
                      for row in same if set(chosen) <= set(row[1:])]
            least = min(having)
            self.assertEqual(on(n, chosen, points), [int(least[0] == len(chosen)), least[1]] + least[2])
            if least[0] > len(chosen):
                self.assertEqual(over(n, chosen, points), [-6])

    def over_agrees(self, n, points, rows):
        """over, of the first and the last faces of each dimension."""
        for same, more in zip(rows, rows[1:] + [[]]):
            for row in same[:4] + same[4:][-2:]:
                having = [other for other in more if set(row[1:]) <= set(other[1:])]
                self.assertEqual(over(n, row[1:], points), sum(having, [len(having)]))

    def some_bodies(self, n, many, reach, times, seed):
        chance = Chance(seed)
        done = 0
        last = None
        while done < times:
            points = chance.points(n, many, reach)
            if dimensions(points) == n:
                with self.subTest(n=n, points=points):
                    so_many, bounds = self.agrees(n, points)
                    self.alike_agrees(n, points, so_many, bounds, last)
                    last = (points, so_many, bounds)
                done += 1
            else:
                self.assertEqual(faces(n, points), [-5])

    def test_two_dimensions(self):
        self.some_bodies(2, 4, 1, 20, 1)
        self.some_bodies(2, 8, 2, 20, 2)
        self.some_bodies(2, 9, 100, 4, 3)

    def test_three_dimensions(self):
        self.some_bodies(3, 5, 1, 20, 4)
        self.some_bodies(3, 8, 1, 6, 5)
        self.some_bodies(3, 7, 2, 8, 6)
        self.some_bodies(3, 8, 100, 2, 7)

    def test_four_dimensions(self):
        self.some_bodies(4, 6, 1, 10, 8)
        self.some_bodies(4, 8, 1, 2, 9)
        self.some_bodies(4, 7, 100, 2, 10)


if __name__ == "__main__":
    unittest.main()
