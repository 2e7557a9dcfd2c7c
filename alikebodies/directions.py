"""Exact reckoning with points and directions: rows of whole numbers, all of one count."""


def together(numbers, point):
    """The products number by number, added up."""
    return sum([a * x for a, x in zip(numbers, point)])


def direction(start, end):
    """The direction in which end lies from start."""
    return [y - x for x, y in zip(start, end)]


def first_not_zero(numbers):
    """The place of the first number that isn't 0; -1 if there is none."""
    for place, number in enumerate(numbers):
        if number != 0:
            return place
    return -1


def cleared(row, lead, place):
    """A row, times a number, less as much of lead as leaves 0 at this place."""
    return [x * lead[place] - y * row[place] for x, y in zip(row, lead)]


def how_many_free(directions):
    """The most of these directions of which none is made of the others."""
    left = list(directions)
    free = 0
    while left:
        lead = left.pop()
        place = first_not_zero(lead)
        if place >= 0:
            free = free + 1
            left = [cleared(row, lead, place) for row in left]
    return free


def dimensions_of(points):
    """In how many dimensions these points lie; -1 if there are none."""
    if not points:
        return -1
    return how_many_free([direction(points[0], point) for point in points[1:]])


def determinant(rows):
    """The determinant of n rows of n numbers."""
    if not rows:
        return 1
    return together(rows[0], crossing(rows[1:]))


def crossing(rows):
    """The direction that n - 1 rows of n numbers are square to; all 0 if one row is made of the others."""
    answer = []
    sign = 1
    for place in range(len(rows) + 1):
        answer.append(sign * determinant([row[:place] + row[place + 1:] for row in rows]))
        sign = -sign
    return answer


def common_divisor(numbers):
    """The greatest number that divides all of these; 0 if all are 0."""
    divisor = 0
    for number in numbers:
        rest = abs(number)
        while rest != 0:
            over = divisor % rest
            divisor = rest
            rest = over
    return divisor


def common_multiple(numbers):
    """The least number above 0 that all of these, each above 0, divide."""
    multiple = 1
    for number in numbers:
        multiple = multiple * (number // common_divisor([multiple, number]))
    return multiple
