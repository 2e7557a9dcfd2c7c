"""The calls: each takes whole numbers and lists of them, and gives back one list of whole numbers."""

from alikebodies.directions import dimensions_of
from alikebodies.duality import corners_of_dual, is_within, place_told, sides_of_dual
from alikebodies.hull import Body
from alikebodies.likeness import ways_between


def faces(n, points):
    """How many faces of dimensions 0 to n - 1 there are; then 1 if simple, else 0; 1 if simplicial, else 0."""
    refused = refusal_of_points(n, points)
    if refused < 0:
        return [refused]
    body = Body(n, points)
    answer = [len(rows) for rows in body.faces_by_dimension()]
    answer.append(1 if body.is_simple() else 0)
    answer.append(1 if body.is_simplicial() else 0)
    return answer


def face(n, dimension, which, points):
    """The face of this dimension, in order, with this number from 0 on: how many corners, their numbers."""
    refused = refusal_of_points(n, points)
    if refused < 0:
        return [refused]
    if dimension < 0 or dimension >= n:
        return [-4]
    rows = Body(n, points).faces_by_dimension()[dimension]
    if which < 0 or which >= len(rows):
        return [-4]
    return row_of(rows[which])


def on(n, corners, points):
    """1 if these corners are a face, else 0; then of the least face that has them all: its dimension, its row."""
    refused = refusal_of_points(n, points)
    if refused < 0:
        return [refused]
    body = Body(n, points)
    if not are_numbers_of_corners(corners, body):
        return [-4]
    least = body.least_face(corners)
    answer = [1 if least == tuple(corners) else 0, body.dimension_of_face(least)]
    return answer + row_of(least)


def over(n, corners, points):
    """How many faces of one dimension more have the face of these corners; then each, in order: its row."""
    told = on(n, corners, points)
    if told[0] < 0:
        return told
    if told[0] == 0:
        return [-6]
    rows = Body(n, points).faces_over(corners)
    answer = [len(rows)]
    for row in rows:
        answer.extend(row_of(row))
    return answer


def alike(n, how_many, points):
    """In how many ways the body of the first so many points and that of the others are alike; then the first way."""
    if how_many < 0 or how_many > len(points):
        return [-4]
    parts = [points[:how_many], points[how_many:]]
    for part in parts:
        refused = refusal_of_points(n, part)
        if refused < 0:
            return [refused]
    found = ways_between(Body(n, parts[0]), Body(n, parts[1]))
    answer = [len(found)]
    if found:
        answer.extend(found[0])
    return answer


def ways(n, points):
    """In how many ways the body is alike to itself."""
    refused = refusal_of_points(n, points)
    if refused < 0:
        return [refused]
    body = Body(n, points)
    return [len(ways_between(body, body))]


def dual(n, place, points):
    """The dual about this place: how many corners, they in order; how many sides, they in order."""
    refused = refusal_of_points(n, points)
    if refused < 0:
        return [refused]
    if not is_place(n, place):
        return [-4]
    body = Body(n, points)
    about = place_told(place)
    if not is_within(body, about):
        return [-6]
    answer = []
    for rows in (corners_of_dual(body, about), sides_of_dual(body, about)):
        answer.append(len(rows))
        for row in rows:
            answer.extend(row)
    return answer


def row_of(numbers):
    """A row: how many corners, then they."""
    return [len(numbers)] + list(numbers)


def refusal_of_points(n, points):
    """What every call refuses of n and its points, the refusal that is told first; 0 if nothing."""
    if n < 2 or n > 4:
        return -3
    if len(points) < 1 or len(points) > 10:
        return -2
    if not all([is_point(n, point) for point in points]):
        return -1
    if dimensions_of(points) < n:
        return -5
    return 0


def is_point(n, numbers):
    """Whether these are n whole numbers from -100 to 100."""
    return len(numbers) == n and all([-100 <= number <= 100 for number in numbers])


def is_place(n, numbers):
    """Whether these are, for each of n numbers, what's above and what's below, each in its range."""
    if len(numbers) != 2 * n:
        return False
    above_in_range = all([-100000 <= number <= 100000 for number in numbers[0::2]])
    return above_in_range and all([1 <= number <= 1000 for number in numbers[1::2]])


def are_numbers_of_corners(numbers, body):
    """Whether these numbers rise, each of them one of the body's corners' numbers."""
    last = -1
    for number in numbers:
        # The first one is above -1 just if it isn't below 0.
        if number <= last or number >= len(body.corners):
            return False
        last = number
    return True
