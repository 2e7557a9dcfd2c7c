"""Bodies that the tests share: lists of points, each told in no special order."""

from itertools import product

TRIANGLE = [[0, 0], [4, 0], [0, 4]]
SQUARE = [[0, 0], [0, 2], [2, 0], [2, 2]]
PENTAGON = [[0, 0], [4, 0], [5, 3], [2, 5], [-1, 3]]
DECAGON = [[k, k * k] for k in range(-5, 5)]

TETRAHEDRON = [[0, 0, 0], [1, 0, 0], [0, 1, 0], [0, 0, 1]]
CUBE = [list(point) for point in product((0, 1), repeat=3)]
OCTAHEDRON = [[1, 0, 0], [-1, 0, 0], [0, 1, 0], [0, -1, 0], [0, 0, 1], [0, 0, -1]]
SQUARE_PYRAMID = [[0, 0, 0], [2, 0, 0], [0, 2, 0], [2, 2, 0], [1, 1, 3]]
TRIANGLE_PRISM = [point + [height] for point in TRIANGLE for height in (0, 1)]
PENTAGON_PRISM = [point + [height] for point in PENTAGON for height in (-7, 7)]

SIMPLEX = [[0, 0, 0, 0], [1, 0, 0, 0], [0, 1, 0, 0], [0, 0, 1, 0], [0, 0, 0, 1]]
CROSS = [[sign if place == axis else 0 for place in range(4)] for axis in range(4) for sign in (1, -1)]
CUBE_PYRAMID = [[2 * x, 2 * y, 2 * z, 0] for x, y, z in CUBE] + [[1, 1, 1, 1]]
TETRAHEDRON_PRISM = [point + [height] for point in TETRAHEDRON for height in (0, 1)]
TWO_TRIANGLES = [p + q for p in ([0, 0], [1, 0], [0, 1]) for q in ([0, 0], [1, 0], [0, 1])]
PYRAMID_PRISM = [point + [height] for point in SQUARE_PYRAMID for height in (0, 1)]
NEIGHBOURS = [[k, k ** 2, k ** 3, k ** 4] for k in range(-3, 4)]
TESSERACT = [list(point) for point in product((0, 1), repeat=4)]

# name, dimensions, points, what faces answers
KNOWN = [
    ("triangle", 2, TRIANGLE, [3, 3, 1, 1]),
    ("square", 2, SQUARE, [4, 4, 1, 1]),
    ("pentagon", 2, PENTAGON, [5, 5, 1, 1]),
    ("decagon", 2, DECAGON, [10, 10, 1, 1]),
    ("tetrahedron", 3, TETRAHEDRON, [4, 6, 4, 1, 1]),
    ("cube", 3, CUBE, [8, 12, 6, 1, 0]),
    ("octahedron", 3, OCTAHEDRON, [6, 12, 8, 0, 1]),
    ("pyramid over a square", 3, SQUARE_PYRAMID, [5, 8, 5, 0, 0]),
    ("prism over a triangle", 3, TRIANGLE_PRISM, [6, 9, 5, 1, 0]),
    ("prism over a pentagon", 3, PENTAGON_PRISM, [10, 15, 7, 1, 0]),
    ("simplex", 4, SIMPLEX, [5, 10, 10, 5, 1, 1]),
    ("cross body, the octahedron's kin", 4, CROSS, [8, 24, 32, 16, 0, 1]),
    ("pyramid over a cube", 4, CUBE_PYRAMID, [9, 20, 18, 7, 0, 0]),
    ("prism over a tetrahedron", 4, TETRAHEDRON_PRISM, [8, 16, 14, 6, 1, 0]),
    ("triangle times triangle", 4, TWO_TRIANGLES, [9, 18, 15, 6, 1, 0]),
    ("prism over a pyramid", 4, PYRAMID_PRISM, [10, 21, 18, 7, 0, 0]),
    ("each two corners joined", 4, NEIGHBOURS, [7, 21, 28, 14, 0, 1]),
]
