"""Shapes asked, and reckoned straight from the words.

Small ones are reckoned by going through all rows. They have no products that are worth something. So there
are larger ones too, of which a cut's worth is told by which of the cycles it crosses an odd number of times.
"""

import random
import unittest
from itertools import chain, combinations, islice

from tests import helper
from tests.helper import ask_about, count, crosses, cut, form, listed, longest, same, times

SHAPES = 60
MOST_OF_A_DIMENSION = 8
LARGER_SHAPES = 80


def some_of(things):
    things = list(things)
    return chain.from_iterable(combinations(things, many) for many in range(len(things) + 1))


def all_faces(simplices):
    faces = {tuple(sorted(some)) for simplex in simplices for some in some_of(simplex) if some}
    return [sorted(face for face in faces if len(face) == dimension + 1) for dimension in range(5)]


def around(faces, dimension, row):
    members = {faces[dimension][number] for number in row}
    found = []
    for number, simplex in enumerate(faces[dimension + 1]):
        inside = [face for face in combinations(simplex, dimension + 1) if face in members]
        if len(inside) % 2 == 1:
            found.append(number)
    return found


def all_rows(faces, dimension):
    return list(some_of(range(len(faces[dimension]))))


def all_cuts(faces, dimension):
    return [row for row in all_rows(faces, dimension) if not around(faces, dimension, row)]


def all_worth_nothing(faces, dimension):
    if dimension == 0:
        return {()}
    return {tuple(around(faces, dimension - 1, row)) for row in all_rows(faces, dimension - 1)}


def is_cycle(faces, dimension, row):
    for face in faces[dimension - 1] if dimension > 0 else []:
        meeting = [number for number in row if set(face) <= set(faces[dimension][number])]
        if len(meeting) % 2 == 1:
            return False
    return True


def multiplied(faces, p, q, row, other):
    found = []
    for number, simplex in enumerate(faces[p + q]):
        if faces[p].index(simplex[:p + 1]) in row and faces[q].index(simplex[-q - 1:]) in other:
            found.append(number)
    return found


def sums_to_nothing(rows):
    """Some of the rows, each told by their places, that add up to the empty one; all such are sums of these."""
    leading = {}
    found = []
    for place, row in enumerate(rows):
        rest, places = set(row), {place}
        while rest and min(rest) in leading:
            rest, places = rest ^ leading[min(rest)][0], places ^ leading[min(rest)][1]
        if rest:
            leading[min(rest)] = (rest, places)
        else:
            found.append(places)
    return found


class Worths:
    """The cuts of a shape by what they are worth: in which of its cycles they cross an odd number of times."""

    def __init__(self, faces):
        self.faces = faces
        self.cycles = [sums_to_nothing(self.borders(dimension)) for dimension in range(4)]
        self.cuts = [self.all_worths(dimension) for dimension in range(4)]

    def borders(self, dimension):
        if dimension == 0:
            return [[] for corner in self.faces[0]]
        below = self.faces[dimension - 1]
        return [[below.index(face) for face in combinations(simplex, dimension)] for simplex in self.faces[dimension]]

    def worth(self, dimension, row):
        return tuple(len(cycle & set(row)) % 2 for cycle in self.cycles[dimension])

    def all_worths(self, dimension):
        """For each worth one cut."""
        alone = [around(self.faces, dimension, [number]) for number in range(len(self.faces[dimension]))]
        found = {self.worth(dimension, []): set()}
        for row in sums_to_nothing(alone):
            if self.worth(dimension, row) not in found:
                for other in list(found.values()):
                    found[self.worth(dimension, row ^ other)] = row ^ other
        return found

    def most(self, dimension):
        return len(self.cuts[dimension]).bit_length() - 1

    def form(self):
        nothing = []
        for row in self.cuts[1].values():
            products = [multiplied(self.faces, 1, 1, row, other) for other in self.cuts[1].values()]
            if not any(any(self.worth(2, found)) for found in products):
                nothing.append(row)
        return [self.most(1), len(nothing).bit_length() - 1]

    def longest(self):
        factors = {}
        for dimension in (1, 2, 3):
            for worth, row in self.cuts[dimension].items():
                if any(worth):
                    factors[dimension, worth] = row
        reached = factors
        many = 0
        while reached:
            many += 1
            further = {}
            for (p, told), row in reached.items():
                for (q, other_told), other in factors.items():
                    if p + q <= 3:
                        found = multiplied(self.faces, p, q, row, other)
                        if any(self.worth(p + q, found)):
                            further[p + q, self.worth(p + q, found)] = set(found)
            reached = further
        return [many]


def larger_shapes():
    source = random.Random(21)
    cores = (
        helper.TORUS, helper.PROJECTIVE_PLANE, helper.KLEIN_BOTTLE, helper.TWO_PLANES, helper.TORUS_AND_PLANE,
        helper.BALL_WITH_RINGS, helper.THREE_SPHERE,
    )
    while True:
        names = source.sample(range(10), 10)
        core = source.choice(cores)
        kept = source.sample(core, len(core) - source.choice((0, 0, 0, 1, 2)))
        further = [source.sample(range(10), source.choice((1, 2, 2, 3, 3, 4))) for told in range(source.randint(0, 5))]
        simplices = [[names[corner] for corner in simplex] for simplex in kept] + further
        faces = all_faces(simplices)
        if sum(len(dimension) for dimension in faces) <= 70:
            yield simplices, Worths(faces), source


def small_shapes():
    source = random.Random(20)
    while True:
        corners = source.randint(1, 6)
        simplices = []
        for told in range(source.randint(1, 7)):
            many = min(corners, source.choice((1, 2, 2, 3, 3, 4)))
            simplices.append(source.sample(range(corners), many))
        faces = all_faces(simplices)
        if max(len(dimension) for dimension in faces) <= MOST_OF_A_DIMENSION:
            yield simplices, faces, source


class ByWords(unittest.TestCase):
    def test_listed(self):
        for simplices, faces, source in islice(small_shapes(), SHAPES):
            for dimension in range(4):
                answer = [len(faces[dimension])]
                for face in faces[dimension]:
                    answer += [len(face)] + list(face)
                self.assertEqual(ask_about(simplices, listed(dimension)), [answer], simplices)

    def test_count(self):
        for simplices, faces, source in islice(small_shapes(), SHAPES):
            most = []
            for dimension in range(4):
                worths = len(all_cuts(faces, dimension)) // len(all_worth_nothing(faces, dimension))
                most.append(worths.bit_length() - 1)
            self.assertEqual(ask_about(simplices, count()), [most], simplices)

    def test_cut(self):
        for simplices, faces, source in islice(small_shapes(), SHAPES):
            for dimension in range(4):
                rows = all_rows(faces, dimension)
                for row in source.sample(rows, min(20, len(rows))):
                    found = around(faces, dimension, row)
                    answer = [0 if found else 1, len(found)] + found
                    self.assertEqual(ask_about(simplices, cut(dimension, row)), [answer], simplices)

    def test_same(self):
        for simplices, faces, source in islice(small_shapes(), SHAPES):
            for dimension in range(4):
                cuts = all_cuts(faces, dimension)
                nothing = all_worth_nothing(faces, dimension)
                for told in range(12):
                    row = source.choice(cuts)
                    other = source.choice(cuts)
                    added = tuple(sorted(set(row) ^ set(other)))
                    answer = 1 if added in nothing else 0
                    self.assertEqual(ask_about(simplices, same(dimension, row, other)), [[answer]], simplices)

    def test_times(self):
        for simplices, faces, source in islice(small_shapes(), SHAPES):
            for p in range(4):
                for q in range(4 - p):
                    nothing = all_worth_nothing(faces, p + q)
                    firsts = all_cuts(faces, p)
                    others = all_cuts(faces, q)
                    for told in range(6):
                        row = source.choice(firsts)
                        other = source.choice(others)
                        found = multiplied(faces, p, q, row, other)
                        answer = [0 if tuple(found) in nothing else 1, len(found)] + found
                        self.assertEqual(ask_about(simplices, times(p, q, row, other)), [answer], simplices)

    def test_crosses(self):
        for simplices, faces, source in islice(small_shapes(), SHAPES):
            for dimension in range(4):
                cuts = all_cuts(faces, dimension)
                rows = all_rows(faces, dimension)
                for row in source.sample(rows, min(20, len(rows))):
                    crossing = source.choice(cuts)
                    answer = len(set(row) & set(crossing)) % 2 if is_cycle(faces, dimension, row) else -6
                    self.assertEqual(ask_about(simplices, crosses(dimension, crossing, row)), [[answer]], simplices)

    def test_a_cut_is_worth_nothing_just_if_it_crosses_each_cycle_evenly(self):
        for simplices, faces, source in islice(small_shapes(), SHAPES):
            for dimension in range(4):
                cycles = [row for row in all_rows(faces, dimension) if is_cycle(faces, dimension, row)]
                for row in source.choices(all_cuts(faces, dimension), k=3):
                    odd = 0
                    for start in range(0, len(cycles), 28):
                        calls = [crosses(dimension, row, cycle) for cycle in cycles[start:start + 28]]
                        odd += sum(answer for [answer] in ask_about(simplices, *calls))
                    self.assertEqual(ask_about(simplices, same(dimension, row, [])), [[0 if odd else 1]], simplices)


class LargerByWords(unittest.TestCase):
    def test_form_and_longest(self):
        seen = set()
        for simplices, worths, source in islice(larger_shapes(), LARGER_SHAPES):
            most = [worths.most(dimension) for dimension in range(4)]
            answer = [most, worths.form(), worths.longest()] if most[1] <= 6 else [most, [-5], [-5]]
            self.assertEqual(ask_about(simplices, count(), form(), longest()), answer, simplices)
            seen.add((tuple(answer[1]), tuple(answer[2])))
        # The shapes are to differ enough to tell something.
        self.assertGreater(len(seen), 10)

    def test_times_and_what_it_hangs_on(self):
        worth_something = 0
        for simplices, worths, source in islice(larger_shapes(), LARGER_SHAPES):
            for p, q in ((1, 1), (0, 1), (1, 0), (1, 2), (2, 1), (0, 2), (0, 3)):
                row, other = source.choice(list(worths.cuts[p].values())), source.choice(list(worths.cuts[q].values()))
                told = any(worths.worth(p + q, multiplied(worths.faces, p, q, row, other)))
                worth_something += told
                for again in range(3):
                    found = multiplied(worths.faces, p, q, row, other)
                    answer = [1 if told else 0, len(found)] + found
                    call = times(p, q, sorted(row), sorted(other))
                    self.assertEqual(ask_about(simplices, call), [answer], simplices)
                    self.assertEqual(ask_about(simplices, cut(p + q, found)), [[1, 0]], simplices)
                    row, other = self.moved(worths, p, row, source), self.moved(worths, q, other, source)
        self.assertGreater(worth_something, 50)

    def moved(self, worths, dimension, row, source):
        """Another cut that's worth the same."""
        if dimension == 0:
            return row
        below = range(len(worths.faces[dimension - 1]))
        some = [number for number in below if source.random() < 0.5]
        return set(row) ^ set(around(worths.faces, dimension - 1, some))


if __name__ == "__main__":
    unittest.main()
