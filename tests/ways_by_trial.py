"""Ways found by the words alone: all rows of numbers are tried, each side by side."""

from functools import lru_cache
from itertools import permutations

from alikebodies.bodies import face, faces


def sides_bounds(n, points):
    """For each side the numbers of the corners on its bound."""
    return bounds_of_the_same(n, tuple(tuple(point) for point in points))


@lru_cache(maxsize=None)
def bounds_of_the_same(n, same):
    points = [list(point) for point in same]
    return [set(face(n, n - 1, which, points)[1:]) for which in range(faces(n, points)[n - 1])]


def is_way(row, first, second):
    """Whether the row takes the corners on each of the first bounds to just those on one of the second."""
    return all({row[number] for number in bound} in second for bound in first)


def all_ways(many, first, second):
    """All ways, in order, of a body with so many corners; first and second are bounds of sides."""
    return [list(row) for row in permutations(range(many)) if is_way(row, first, second)]


def tried(n, one, other):
    """What alike is to answer of the bodies of these points."""
    many = faces(n, one)[0]
    if many != faces(n, other)[0]:
        return [0]
    found = all_ways(many, sides_bounds(n, one), sides_bounds(n, other))
    return [len(found)] + found[0] if found else [0]
