"""Duals found by the words alone, with fractions: sides through each n points, first of the body, then of the dual."""

from fractions import Fraction
from itertools import combinations
from math import gcd, lcm


def square_to(directions, n):
    """The one direction, up to its length, that these n - 1 directions are square to; None if there are more."""
    rows = [[Fraction(number) for number in row] for row in directions]
    leads = []
    for column in range(n):
        here = len(leads)
        found = [k for k in range(here, len(rows)) if rows[k][column] != 0]
        if found:
            rows[here], rows[found[0]] = rows[found[0]], rows[here]
            rows[here] = [number / rows[here][column] for number in rows[here]]
            for k in range(len(rows)):
                if k != here:
                    rows[k] = [x - rows[k][column] * y for x, y in zip(rows[k], rows[here])]
            leads.append(column)
    if len(leads) < n - 1:
        return None
    free = [column for column in range(n) if column not in leads][0]
    answer = [Fraction(0)] * n
    answer[free] = Fraction(1)
    for row, column in zip(rows, leads):
        answer[column] = -row[free]
    return answer


def without_divisor(numbers):
    """Whole numbers without a common divisor, in the same direction as these fractions."""
    below = lcm(*[Fraction(number).denominator for number in numbers])
    whole = [int(number * below) for number in numbers]
    return [number // gcd(*whole) for number in whole]


def product_of(ahead, point):
    return sum(a * x for a, x in zip(ahead, point))


def sides_of(n, points):
    """The sides, in order, of the body between these points, whole or fractions."""
    found = set()
    for few in combinations(points, n):
        ahead = square_to([[y - x for x, y in zip(few[0], point)] for point in few[1:]], n)
        if ahead is None:
            continue
        bound = product_of(ahead, few[0])
        heights = [product_of(ahead, point) - bound for point in points]
        if max(heights) <= 0:
            found.add(tuple(without_divisor(ahead + [bound])))
        elif min(heights) >= 0:
            found.add(tuple(without_divisor([-number for number in ahead + [bound]])))
    return sorted(found)


def place_of(told):
    return [Fraction(above, below) for above, below in zip(told[::2], told[1::2])]


def corners_tried(n, told, points):
    """The dual's corners, in order; sides that aren't made of others stand for points that aren't mixtures."""
    place = place_of(told)
    return sorted([Fraction(a) / (side[-1] - product_of(side[:-1], place)) for a in side[:-1]]
                  for side in sides_of(n, points))


def answer_of(corners, sides):
    """What dual answers if the dual has these corners and sides."""
    answer = [len(corners)]
    for corner in corners:
        for number in corner:
            answer += [Fraction(number).numerator, Fraction(number).denominator]
    answer.append(len(sides))
    for side in sides:
        answer += side
    return answer


def tried(n, told, points):
    """What dual is to answer, about a place within."""
    corners = corners_tried(n, told, points)
    return answer_of(corners, sides_of(n, corners))


def parts_of(n, answer):
    """The dual's corners, as fractions, and its sides, out of an answer."""
    many = answer[0]
    numbers = answer[1:1 + 2 * n * many]
    corners = [place_of(numbers[k:k + 2 * n]) for k in range(0, len(numbers), 2 * n)]
    behind = answer[2 + 2 * n * many:]
    sides = [tuple(behind[k:k + n + 1]) for k in range(0, len(behind), n + 1)]
    return corners, answer[1 + 2 * n * many], sides
