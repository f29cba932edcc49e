"""How the tests write calls and read answers, and the shapes that they ask about."""

from itertools import combinations

from cutproducts.shapes import answers

TOP = 4294967295

POINT = [[4]]
EDGE = [[0, 1]]
RING = [[0, 1], [0, 2], [1, 2]]
TRIANGLE = [[0, 1, 2]]
TETRAHEDRON = [[0, 1, 2, 3]]
HOLLOW_TETRAHEDRON = [list(t) for t in combinations(range(4), 3)]
THREE_SPHERE = [list(t) for t in combinations(range(5), 4)]
TORUS = [[i, (i + a) % 7, (i + 3) % 7] for i in range(7) for a in (1, 2)]
PROJECTIVE_PLANE = [
    [0, 1, 2], [0, 2, 3], [0, 3, 4], [0, 4, 5], [0, 1, 5],
    [1, 2, 4], [2, 3, 5], [1, 3, 4], [2, 4, 5], [1, 3, 5],
]
BALL_WITH_RINGS = HOLLOW_TETRAHEDRON + [[0, 4], [4, 5], [5, 0], [0, 6], [6, 7], [7, 0]]
# Three rows of three squares; behind the last row comes the first one, backwards.
KLEIN_ROWS = [(0, 1, 2), (3, 4, 5), (6, 7, 8), (0, 2, 1)]
KLEIN_BOTTLE = [
    [row[k], below[(k + 1) % 3], third]
    for row, below in zip(KLEIN_ROWS, KLEIN_ROWS[1:])
    for k in range(3)
    for third in (row[(k + 1) % 3], below[k])
]
PARTS = [[9], [7, 8], [2, 1], [1, 0], [0, 2], [3, 4, 5, 6]]

ALL_EDGES = [list(t) for t in combinations(range(10), 2)]
SEVENTY = ALL_EDGES + [[0, 1, k] for k in range(2, 10)] + [[0, 2, k] for k in range(3, 10)]
SEVENTY_ONE = SEVENTY + [[0, 3, 4]]

# Five corners and all their edges have six rings, and a corner at two of them makes one more.
SIX_RINGS = [list(t) for t in combinations(range(5), 2)]
SEVEN_RINGS = SIX_RINGS + [[0, 5], [1, 5]]

# Two projective planes with the triangle 012 in common.
TWO_PLANES = PROJECTIVE_PLANE + [[c + 3 if c > 2 else c for c in t] for t in PROJECTIVE_PLANE]
# Nine edges between them make nine rings, of which five are filled; with a loose corner that's 70 simplices.
BETWEEN_PLANES = [[a, b] for a in (3, 4, 5) for b in (6, 7, 8)]
SEVENTY_WITH_SIX = TWO_PLANES + [[9]] + BETWEEN_PLANES + [[0] + edge for edge in BETWEEN_PLANES[:5]]

# A torus and a projective plane with the triangle 013 in common; each edge between them makes a ring.
TORUS_AND_PLANE = TORUS + [[(0, 1, 3, 7, 8, 9)[c] for c in t] for t in PROJECTIVE_PLANE]
SIXTY_NINE_WITH_SIX = TORUS_AND_PLANE + [[7, 2], [7, 4], [8, 2]]
SEVENTY_WITH_SEVEN = SIXTY_NINE_WITH_SIX + [[8, 4]]

# On the torus of seven corners every two are joined, by a step of 1, 2 or 3 the shorter way. A triangle has
# one step of each, so that two of its edges are in each of these rows, which are independent cuts.
TORUS_EDGES = list(combinations(range(7), 2))
TORUS_CUT = [n for n, (a, b) in enumerate(TORUS_EDGES) if min(b - a, 7 - b + a) in (1, 3)]
OTHER_TORUS_CUT = [n for n, (a, b) in enumerate(TORUS_EDGES) if min(b - a, 7 - b + a) in (2, 3)]


def lists(handed):
    told = [len(handed)]
    for one in handed:
        told += [len(one)] + list(one)
    return told


def shape(simplices):
    return [0, 0] + lists(simplices)


def count():
    return [1, 0, 0]


def listed(dimension):
    return [2, 1, dimension, 0]


def cut(dimension, row):
    return [3, 1, dimension] + lists([row])


def same(dimension, row, other):
    return [4, 1, dimension] + lists([row, other])


def times(p, q, row, other):
    return [5, 2, p, q] + lists([row, other])


def form():
    return [6, 0, 0]


def longest():
    return [7, 0, 0]


def crosses(dimension, row, cycle):
    return [8, 1, dimension] + lists([row, cycle])


def added(row, other):
    return sorted(set(row) ^ set(other))


def parted(numbers):
    """The answers of the calls, each as a list of its own."""
    parts = []
    place = 0
    while place < len(numbers):
        many = numbers[place]
        part = numbers[place + 1:place + 1 + many]
        if len(part) != many:
            raise ValueError("an answer is cut short")
        parts.append(part)
        place += 1 + many
    return parts


def ask(*calls):
    """What is answered to these calls, one behind another on one new object."""
    return parted(answers([number for call in calls for number in call]))


def ask_about(simplices, *calls):
    """What is answered to the calls behind a shape call that isn't refused."""
    parts = ask(shape(simplices), *calls)
    if parts[0][0] < 0:
        raise ValueError("the shape is refused")
    return parts[1:]


def check_refused(test, simplices, call, refusal):
    """The call is answered by the refusal alone, and the shape is as it was behind it."""
    seen = [count()] + [listed(dimension) for dimension in range(4)]
    ahead = ask_about(simplices, *seen)
    test.assertEqual(ask_about(simplices, *seen, call, *seen), ahead + [[refusal]] + ahead, call)
