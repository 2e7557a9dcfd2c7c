"""The calls: each takes whole numbers and lists of them, and gives back one list of whole numbers."""

from alikebodies.directions import dimensions_of
from alikebodies.hull import Body


def faces(n, points):
    """How many faces of dimensions 0 to n - 1 there are; then 1 if simple, else 0; 1 if simplicial, else 0."""
    refused = refusal_of_points(n, points)
    if refused < 0:
        return [refused]
    body = Body(n, points)
    answer = [len(rows) for rows in body.faces_by_dimension()]
    answer.append(1 if body.is_simple() else 0)
    answer.append(1 if body.is_simplicial() else 0)
    return answer


def face(n, dimension, which, points):
    """The face of this dimension, in order, with this number from 0 on: how many corners, their numbers."""
    refused = refusal_of_points(n, points)
    if refused < 0:
        return [refused]
    if dimension < 0 or dimension >= n:
        return [-4]
    rows = Body(n, points).faces_by_dimension()[dimension]
    if which < 0 or which >= len(rows):
        return [-4]
    return row_of(rows[which])


def row_of(numbers):
    """A row: how many corners, then they."""
    return [len(numbers)] + list(numbers)


def refusal_of_points(n, points):
    """What every call refuses of n and its points, the refusal that is told first; 0 if nothing."""
    if n < 2 or n > 4:
        return -3
    if len(points) < 1 or len(points) > 10:
        return -2
    if not all([is_point(n, point) for point in points]):
        return -1
    if dimensions_of(points) < n:
        return -5
    return 0


def is_point(n, numbers):
    """Whether these are n whole numbers from -100 to 100."""
    return len(numbers) == n and all([-100 <= number <= 100 for number in numbers])
