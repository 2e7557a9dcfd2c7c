"""The dual of a body about a place within it.

A place is a list of n + 1 whole numbers here: what's above for each of its n numbers, and then, above 0, what's
below all of them.
"""

from alikebodies.directions import common_divisor, common_multiple, together


def place_told(told):
    """The place that is told by what's above and what's below for each of its numbers, one behind the other."""
    below = common_multiple(told[1::2])
    return [number * (below // part) for number, part in zip(told[0::2], told[1::2])] + [below]


def depth(side, place):
    """The side's b less its a times the place, times what's below in the place."""
    return side[-1] * place[-1] - together(side[:-1], place[:-1])


def is_within(body, place):
    """Whether the place is in all sides of the body and on no side's bound."""
    return all([depth(side, place) > 0 for side in body.sides])


def corners_of_dual(body, place):
    """The dual's corners, in order, each told by what's above and what's below for each of its numbers.

    Each side of the body stands for a corner: no side is made of others, so no such point is a mixture of others.
    """
    below = common_multiple([depth(side, place) for side in body.sides])

    def over_one_below(side):
        # With the same below all of them, points are in the order of what's above.
        return [number * (below // depth(side, place)) for number in side[:-1]]

    corners = []
    for side in sorted(body.sides, key=over_one_below):
        corner = []
        for number in side[:-1]:
            corner.extend(fraction_told(number * place[-1], depth(side, place)))
        corners.append(corner)
    return corners


def sides_of_dual(body, place):
    """The dual's sides, in order, each n + 1 whole numbers without a common divisor.

    Each corner of the body stands for a side: the point of a body's side is on its bound just if the corner is on
    the bound of that side, else it's in it.
    """
    sides = []
    for corner in body.corners:
        ahead = [number * place[-1] - other for number, other in zip(corner, place[:-1])]
        divisor = common_divisor(ahead + [place[-1]])
        sides.append([number // divisor for number in ahead + [place[-1]]])
    return sorted(sides)


def fraction_told(above, below):
    """What's above and what's below, with nothing in common; below is above 0."""
    divisor = common_divisor([above, below])
    return [above // divisor, below // divisor]
