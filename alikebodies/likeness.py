"""The ways in which two bodies are alike."""


def ways_between(first, second):
    """All ways in which these bodies are alike, in order, each a row of numbers of the second's corners."""
    if len(first.corners) != len(second.corners):
        return []
    rows = [[]]
    for number in range(len(first.corners)):
        longer = []
        for row in rows:
            longer.extend(rows_of_one_more(row, first, second))
        rows = longer
    return rows


def rows_of_one_more(row, first, second):
    """The rows that tell of one corner more, in order, and may still be the beginning of a way."""
    longer = [row + [number] for number in range(len(second.corners)) if number not in row]
    return [numbers for numbers in longer if sides_go_to_sides(numbers, first, second)]


def sides_go_to_sides(row, first, second):
    """Whether the row takes sides to sides, as far as it tells already where corners go.

    A way takes different sides to different sides and leaves none of the second's over: each face of n - 2
    dimensions is in just two sides, so that the sides around one that is met are all met, too. So what of the
    first's sides has gone somewhere must be, together, what of the second's sides is met, also half on the way:
    that is what keeps the rows few.
    """
    known = len(row)
    gone = [tuple(sorted([row[number] for number in bound if number < known])) for bound in first.bounds]
    met = [tuple([number for number in bound if number in row]) for bound in second.bounds]
    return sorted(gone) == sorted(met)
