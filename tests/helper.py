"""How the tests write calls and read answers, and the shapes that they ask about."""

from itertools import combinations

from cutproducts.shapes import answers

TOP = 4294967295

POINT = [[4]]
EDGE = [[0, 1]]
RING = [[0, 1], [0, 2], [1, 2]]
TRIANGLE = [[0, 1, 2]]
TETRAHEDRON = [[0, 1, 2, 3]]
HOLLOW_TETRAHEDRON = [list(t) for t in combinations(range(4), 3)]
THREE_SPHERE = [list(t) for t in combinations(range(5), 4)]
TORUS = [[i, (i + a) % 7, (i + 3) % 7] for i in range(7) for a in (1, 2)]
PROJECTIVE_PLANE = [
    [0, 1, 2], [0, 2, 3], [0, 3, 4], [0, 4, 5], [0, 1, 5],
    [1, 2, 4], [2, 3, 5], [1, 3, 4], [2, 4, 5], [1, 3, 5],
]
BALL_WITH_RINGS = HOLLOW_TETRAHEDRON + [[0, 4], [4, 5], [5, 0], [0, 6], [6, 7], [7, 0]]
PARTS = [[9], [7, 8], [2, 1], [1, 0], [0, 2], [3, 4, 5, 6]]

ALL_EDGES = [list(t) for t in combinations(range(10), 2)]
SEVENTY = ALL_EDGES + [[0, 1, k] for k in range(2, 10)] + [[0, 2, k] for k in range(3, 10)]
SEVENTY_ONE = SEVENTY + [[0, 3, 4]]


def lists(handed):
    told = [len(handed)]
    for one in handed:
        told += [len(one)] + list(one)
    return told


def shape(simplices):
    return [0, 0] + lists(simplices)


def count():
    return [1, 0, 0]


def listed(dimension):
    return [2, 1, dimension, 0]


def cut(dimension, row):
    return [3, 1, dimension] + lists([row])


def same(dimension, row, other):
    return [4, 1, dimension] + lists([row, other])


def parted(numbers):
    """The answers of the calls, each as a list of its own."""
    parts = []
    place = 0
    while place < len(numbers):
        many = numbers[place]
        part = numbers[place + 1:place + 1 + many]
        if len(part) != many:
            raise ValueError("an answer is cut short")
        parts.append(part)
        place += 1 + many
    return parts


def ask(*calls):
    """What is answered to these calls, one behind another on one new object."""
    return parted(answers([number for call in calls for number in call]))


def ask_about(simplices, *calls):
    """What is answered to the calls behind a shape call that isn't refused."""
    parts = ask(shape(simplices), *calls)
    if parts[0][0] < 0:
        raise ValueError("the shape is refused")
    return parts[1:]
