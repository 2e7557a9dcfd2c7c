"""Bodies that the tests share: lists of points, each told in no special order."""

from itertools import combinations, product

TRIANGLE = [[0, 0], [4, 0], [0, 4]]
SQUARE = [[0, 0], [0, 2], [2, 0], [2, 2]]
PENTAGON = [[0, 0], [4, 0], [5, 3], [2, 5], [-1, 3]]
DECAGON = [[k, k * k] for k in range(-5, 5)]

TETRAHEDRON = [[0, 0, 0], [1, 0, 0], [0, 1, 0], [0, 0, 1]]
CUBE = [list(point) for point in product((0, 1), repeat=3)]
OCTAHEDRON = [[1, 0, 0], [-1, 0, 0], [0, 1, 0], [0, -1, 0], [0, 0, 1], [0, 0, -1]]
SQUARE_PYRAMID = [[0, 0, 0], [2, 0, 0], [0, 2, 0], [2, 2, 0], [1, 1, 3]]
TRIANGLE_PRISM = [point + [height] for point in TRIANGLE for height in (0, 1)]
PENTAGON_PRISM = [point + [height] for point in PENTAGON for height in (-7, 7)]

SIMPLEX = [[0, 0, 0, 0], [1, 0, 0, 0], [0, 1, 0, 0], [0, 0, 1, 0], [0, 0, 0, 1]]
CROSS = [[sign if place == axis else 0 for place in range(4)] for axis in range(4) for sign in (1, -1)]
CUBE_PYRAMID = [[2 * x, 2 * y, 2 * z, 0] for x, y, z in CUBE] + [[1, 1, 1, 1]]
TETRAHEDRON_PRISM = [point + [height] for point in TETRAHEDRON for height in (0, 1)]
TWO_TRIANGLES = [p + q for p in ([0, 0], [1, 0], [0, 1]) for q in ([0, 0], [1, 0], [0, 1])]
PYRAMID_PRISM = [point + [height] for point in SQUARE_PYRAMID for height in (0, 1)]
NEIGHBOURS = [[k, k ** 2, k ** 3, k ** 4] for k in range(-3, 4)]
TESSERACT = [list(point) for point in product((0, 1), repeat=4)]

# Bodies of ten corners, as many as there may be.
NINE_PYRAMID = [[k, k * k, 0] for k in range(-4, 5)] + [[0, 1, 1]]
OCTAGON_BOTH_WAYS = [[k, k * k, 0] for k in range(-4, 4)] + [[0, 5, 1], [0, 5, -1]]
CUT_CUBE = [[0, 0, 0], [2, 0, 0], [0, 2, 0], [0, 0, 2], [2, 2, 0], [2, 0, 2], [0, 2, 2],
            [2, 2, 1], [2, 1, 2], [1, 2, 2]]
MIDDLES_OF_EDGES = [[1 if place in pair else 0 for place in range(1, 5)] for pair in combinations(range(5), 2)]
PENTAGON_ACROSS = [[x - 2, y - 2] + [0, 0] for x, y in PENTAGON] + [[0, 0] + [x - 2, y - 2] for x, y in PENTAGON]
RING = [(100, 0), (81, 59), (31, 95), (-31, 95), (-81, 59), (-100, 0), (-81, -59), (-31, -95), (31, -95), (81, -59)]
# Each corner k turned about once and about twice: a body each two of whose ten corners are joined, with 35 sides.
TWICE_ROUND = [list(RING[k] + RING[2 * k % 10]) for k in range(10)]

# Bodies with no way but one to be alike to themselves; then others with as many faces of each dimension, as many
# corners on the sides and as many sides at the corners, that aren't built alike; in how many ways to themselves.
LOPSIDED = [[-2, 0, 1], [0, -2, -2], [0, -1, 2], [1, -2, -2], [1, 0, 1], [2, -2, 0], [2, -2, 1]]
HARDLY_LOPSIDED = [[-2, 1, -2], [-2, 1, 1], [0, -2, -1], [0, 1, -2], [0, 2, -2], [1, -2, -1], [1, 1, -1]]
LOPSIDED_IN_FOUR = [[-1, -1, 0, 1], [-1, 0, 0, -1], [0, 1, 0, -1], [0, 1, 1, 0],
                    [1, -1, -1, -1], [1, -1, 1, -1], [1, 1, -1, -1], [1, 1, 0, 0]]
OTHERWISE_LOPSIDED = [[-1, -1, -1, 1], [0, 0, 1, -1], [0, 0, 1, 1], [0, 1, 0, 1],
                      [1, -1, 1, -1], [1, -1, 1, 0], [1, 0, -1, 0], [1, 1, 1, 0]]
SAME_COUNTS = [
    (3, LOPSIDED, 1, HARDLY_LOPSIDED, 2),
    (3, [[-2, -1, -2], [-2, 2, -2], [-2, 2, 1], [2, -2, 1], [2, -2, 2], [2, 1, 1], [2, 1, 2]], 6,
     [[-2, 0, -2], [-1, -2, 1], [-1, 2, 1], [0, 2, -2], [0, 2, 1], [1, 2, 0], [2, 1, 1]], 2),
    (4, LOPSIDED_IN_FOUR, 1, OTHERWISE_LOPSIDED, 1),
]

# name, dimensions, points, what faces answers
KNOWN = [
    ("triangle", 2, TRIANGLE, [3, 3, 1, 1]),
    ("square", 2, SQUARE, [4, 4, 1, 1]),
    ("pentagon", 2, PENTAGON, [5, 5, 1, 1]),
    ("decagon", 2, DECAGON, [10, 10, 1, 1]),
    ("tetrahedron", 3, TETRAHEDRON, [4, 6, 4, 1, 1]),
    ("cube", 3, CUBE, [8, 12, 6, 1, 0]),
    ("octahedron", 3, OCTAHEDRON, [6, 12, 8, 0, 1]),
    ("pyramid over a square", 3, SQUARE_PYRAMID, [5, 8, 5, 0, 0]),
    ("prism over a triangle", 3, TRIANGLE_PRISM, [6, 9, 5, 1, 0]),
    ("prism over a pentagon", 3, PENTAGON_PRISM, [10, 15, 7, 1, 0]),
    ("simplex", 4, SIMPLEX, [5, 10, 10, 5, 1, 1]),
    ("cross body, the octahedron's kin", 4, CROSS, [8, 24, 32, 16, 0, 1]),
    ("pyramid over a cube", 4, CUBE_PYRAMID, [9, 20, 18, 7, 0, 0]),
    ("prism over a tetrahedron", 4, TETRAHEDRON_PRISM, [8, 16, 14, 6, 1, 0]),
    ("triangle times triangle", 4, TWO_TRIANGLES, [9, 18, 15, 6, 1, 0]),
    ("prism over a pyramid", 4, PYRAMID_PRISM, [10, 21, 18, 7, 0, 0]),
    ("each two corners joined", 4, NEIGHBOURS, [7, 21, 28, 14, 0, 1]),
]

# What ways answers of each of the known bodies, and of more with ten corners.
WAYS_OF_KNOWN = [6, 8, 10, 20, 24, 48, 48, 8, 12, 20, 120, 384, 48, 48, 72, 16, 14]
WAYS = [(name, n, points, many) for (name, n, points, answer), many in zip(KNOWN, WAYS_OF_KNOWN)] + [
    ("pyramid over nine corners", 3, NINE_PYRAMID, 18),
    ("eight corners between two", 3, OCTAGON_BOTH_WAYS, 32),
    ("cube without a corner", 3, CUT_CUBE, 6),
    ("middles of a simplex's edges", 4, MIDDLES_OF_EDGES, 120),
    ("pentagon across a pentagon", 4, PENTAGON_ACROSS, 200),
    ("each two of ten corners joined", 4, TWICE_ROUND, 20),
]
