"""A body, made out of points: its corners, its sides and its faces."""

from alikebodies.directions import common_divisor, crossing, dimensions_of, direction, how_many_free, together


class Body:
    """What is between some points that lie in n dimensions.

    corners: the corners in order, each a tuple of n numbers.
    sides: the sides in order, each a tuple of n + 1 numbers, first a, then b.
    bounds: for each side the numbers of the corners on its bound, a rising tuple.
    """

    def __init__(self, n, points):
        # A point that is handed in twice is one point: it isn't another that it could be a mixture of.
        different = sorted(set([tuple(point) for point in points]))
        self.n = n
        self.sides = sides_of(n, different)
        self.corners = [point for point in different if is_corner(point, self.sides)]
        self.bounds = [numbers_on(side, self.corners) for side in self.sides]

    def is_simple(self):
        """Whether each corner is on the bounds of just n sides."""
        for number in range(len(self.corners)):
            if len([bound for bound in self.bounds if number in bound]) != self.n:
                return False
        return True

    def is_simplicial(self):
        """Whether each side has just n corners on its bound."""
        return all([len(bound) == self.n for bound in self.bounds])

    def all_faces(self):
        """The faces of all dimensions from -1 to n, in order, each a rising tuple of corners' numbers."""
        return shared_by_some(self.bounds) + [tuple(range(len(self.corners)))]

    def faces_by_dimension(self):
        """For each dimension 0 to n - 1 its faces, in order."""
        rows = [[] for dimension in range(self.n)]
        for numbers in self.all_faces():
            dimension = self.dimension_of_face(numbers)
            if 0 <= dimension < self.n:
                rows[dimension].append(numbers)
        return rows

    def dimension_of_face(self, numbers):
        """In how many dimensions the corners with these numbers lie."""
        return dimensions_of([self.corners[number] for number in numbers])

    def least_face(self, numbers):
        """The least face that has all corners with these numbers."""
        having = [bound for bound in self.bounds if has_all(bound, numbers)]
        return tuple([number for number in range(len(self.corners)) if all([number in bound for bound in having])])

    def faces_over(self, numbers):
        """The faces of one dimension more that have the face with these corners' numbers, in order."""
        dimension = self.dimension_of_face(numbers) + 1
        having = [row for row in self.all_faces() if has_all(row, numbers)]
        return [row for row in having if self.dimension_of_face(row) == dimension]


def sides_of(n, points):
    """The sides, in order, of the body between different points that lie in n dimensions."""
    found = {}
    for chosen in rising_choices(len(points), n):
        side = side_through([points[number] for number in chosen], points)
        if side:
            found[side] = True
    return sorted(found)


def rising_choices(how_many, size):
    """All rows of size rising numbers, each number from 0 to how_many - 1."""
    rows = [[]]
    for step in range(size):
        longer = []
        for row in rows:
            first = row[-1] + 1 if row else 0
            longer.extend([row + [number] for number in range(first, how_many)])
        rows = longer
    return rows


def side_through(few, points):
    """The side that has n of the points, few, on its bound; an empty tuple if there is no such one."""
    ahead = crossing([direction(few[0], point) for point in few[1:]])
    if not any(ahead):
        return ()
    bound = together(ahead, few[0])
    heights = [together(ahead, point) - bound for point in points]
    if min(heights) < 0 and max(heights) > 0:
        return ()
    divisor = common_divisor(ahead + [bound])
    # All points are to be on the side's own side: where they are above the bound, the signs turn.
    if max(heights) > 0:
        divisor = -divisor
    return tuple([number // divisor for number in ahead + [bound]])


def is_on_bound(side, point):
    """Whether the point is on this side's bound."""
    return together(side[:-1], point) == side[-1]


def numbers_on(side, corners):
    """The numbers of the corners on this side's bound."""
    return tuple([number for number, corner in enumerate(corners) if is_on_bound(side, corner)])


def is_corner(point, sides):
    """Whether this one of a body's points is a corner.

    A mixture of other points can go some way to and fro and stay on all the bounds that it is on, so the
    directions that these are square to are fewer than n. A corner can't: each way leaves one of them.
    """
    ahead = [side[:-1] for side in sides if is_on_bound(side, point)]
    return how_many_free(ahead) == len(point)


def has_all(row, numbers):
    """Whether all these numbers are in the row."""
    return all([number in row for number in numbers])


def shared_by_some(bounds):
    """All rows of numbers that some of the bounds, one or more, have in common, in order of faces."""
    found = {}
    for bound in bounds:
        for numbers in list(found):
            found[tuple([number for number in numbers if number in bound])] = True
        found[bound] = True
    return sorted(found, key=order_of_face)


def order_of_face(numbers):
    """What faces are ordered by: those of fewer corners first, then by the corners' numbers."""
    return (len(numbers), numbers)
