"""Small shapes, asked and reckoned straight from the words by going through all rows."""

import random
import unittest
from itertools import chain, combinations, islice

from tests.helper import ask_about, count, cut, listed, same

SHAPES = 60
MOST_OF_A_DIMENSION = 8


def some_of(things):
    things = list(things)
    return chain.from_iterable(combinations(things, many) for many in range(len(things) + 1))


def all_faces(simplices):
    faces = {tuple(sorted(some)) for simplex in simplices for some in some_of(simplex) if some}
    return [sorted(face for face in faces if len(face) == dimension + 1) for dimension in range(5)]


def around(faces, dimension, row):
    members = {faces[dimension][number] for number in row}
    found = []
    for number, simplex in enumerate(faces[dimension + 1]):
        inside = [face for face in combinations(simplex, dimension + 1) if face in members]
        if len(inside) % 2 == 1:
            found.append(number)
    return found


def all_rows(faces, dimension):
    return list(some_of(range(len(faces[dimension]))))


def all_cuts(faces, dimension):
    return [row for row in all_rows(faces, dimension) if not around(faces, dimension, row)]


def all_worth_nothing(faces, dimension):
    if dimension == 0:
        return {()}
    return {tuple(around(faces, dimension - 1, row)) for row in all_rows(faces, dimension - 1)}


def small_shapes():
    source = random.Random(20)
    while True:
        corners = source.randint(1, 6)
        simplices = []
        for told in range(source.randint(1, 7)):
            many = min(corners, source.choice((1, 2, 2, 3, 3, 4)))
            simplices.append(source.sample(range(corners), many))
        faces = all_faces(simplices)
        if max(len(dimension) for dimension in faces) <= MOST_OF_A_DIMENSION:
            yield simplices, faces, source


class ByWords(unittest.TestCase):
    def test_listed(self):
        for simplices, faces, source in islice(small_shapes(), SHAPES):
            for dimension in range(4):
                answer = [len(faces[dimension])]
                for face in faces[dimension]:
                    answer += [len(face)] + list(face)
                self.assertEqual(ask_about(simplices, listed(dimension)), [answer], simplices)

    def test_count(self):
        for simplices, faces, source in islice(small_shapes(), SHAPES):
            most = []
            for dimension in range(4):
                worths = len(all_cuts(faces, dimension)) // len(all_worth_nothing(faces, dimension))
                most.append(worths.bit_length() - 1)
            self.assertEqual(ask_about(simplices, count()), [most], simplices)

    def test_cut(self):
        for simplices, faces, source in islice(small_shapes(), SHAPES):
            for dimension in range(4):
                rows = all_rows(faces, dimension)
                for row in source.sample(rows, min(20, len(rows))):
                    found = around(faces, dimension, row)
                    answer = [0 if found else 1, len(found)] + found
                    self.assertEqual(ask_about(simplices, cut(dimension, row)), [answer], simplices)

    def test_same(self):
        for simplices, faces, source in islice(small_shapes(), SHAPES):
            for dimension in range(4):
                cuts = all_cuts(faces, dimension)
                nothing = all_worth_nothing(faces, dimension)
                for told in range(12):
                    row = source.choice(cuts)
                    other = source.choice(cuts)
                    added = tuple(sorted(set(row) ^ set(other)))
                    answer = 1 if added in nothing else 0
                    self.assertEqual(ask_about(simplices, same(dimension, row, other)), [[answer]], simplices)


if __name__ == "__main__":
    unittest.main()
