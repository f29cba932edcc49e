import unittest

from tests import helper
from tests.helper import ask, ask_about, count, listed, same, shape


class Same(unittest.TestCase):
    def check(self, simplices, dimension, row, other, answer):
        self.assertEqual(ask_about(simplices, same(dimension, row, other)), [[answer]], (dimension, row, other))
        self.assertEqual(ask_about(simplices, same(dimension, other, row)), [[answer]], (dimension, other, row))

    def test_a_point(self):
        self.check(helper.POINT, 0, [0], [0], 1)
        self.check(helper.POINT, 0, [0], [], 0)

    def test_dimension_zero_asks_for_the_same_row(self):
        self.check(helper.EDGE, 0, [0, 1], [0, 1], 1)
        self.check(helper.EDGE, 0, [0, 1], [], 0)
        self.check([[3], [5]], 0, [0], [1], 0)
        self.check([[3], [5]], 0, [0, 1], [1], 0)
        self.check([[3], [5]], 0, [0, 1], [0, 1], 1)
        self.check(helper.TORUS, 0, list(range(7)), [], 0)

    def test_an_edge(self):
        self.check(helper.EDGE, 1, [0], [], 1)

    def test_a_ring(self):
        self.check(helper.RING, 1, [0], [], 0)
        self.check(helper.RING, 1, [0], [1], 1)
        self.check(helper.RING, 1, [2], [1], 1)
        self.check(helper.RING, 1, [0, 1], [], 1)
        self.check(helper.RING, 1, [0, 1, 2], [], 0)
        self.check(helper.RING, 1, [0, 1, 2], [1], 1)

    def test_a_triangle(self):
        self.check(helper.TRIANGLE, 1, [0, 1], [], 1)
        self.check(helper.TRIANGLE, 1, [0, 1], [1, 2], 1)
        self.check(helper.TRIANGLE, 2, [0], [], 1)

    def test_surfaces(self):
        for simplices in (helper.HOLLOW_TETRAHEDRON, helper.TORUS, helper.PROJECTIVE_PLANE):
            many = len(simplices)
            self.check(simplices, 2, [0], [], 0)
            for number in range(many):
                self.check(simplices, 2, [0], [number], 1)
            self.check(simplices, 2, [1, 2], [], 1)
            self.check(simplices, 2, list(range(many)), [], 1)

    def test_the_torus_has_four_worths_of_dimension_one(self):
        # Edges in order 01 02 .. 06 12 ..; these cuts are the edges whose step by 1, 2, 3 goes round.
        edges = [(a, b) for a in range(7) for b in range(a + 1, 7)]
        weights = {1: (1, 0), 2: (0, 1), 3: (1, 1)}
        triangle_steps = [(1, 2, 3), (2, 1, 3)]
        for first, second, both in triangle_steps:
            for place in (0, 1):
                self.assertEqual((weights[first][place] + weights[second][place]) % 2, weights[both][place])
        cuts = [[]]
        for place in (0, 1):
            cuts.append([
                number for number, (a, b) in enumerate(edges)
                if weights[min(b - a, 7 - b + a)][place]
            ])
        cuts.append(sorted(set(cuts[1]) ^ set(cuts[2])))
        corner = [number for number, edge in enumerate(edges) if 3 in edge]
        for number, row in enumerate(cuts):
            for place, other in enumerate(cuts):
                self.check(helper.TORUS, 1, row, other, 1 if number == place else 0)
            moved = sorted(set(row) ^ set(corner))
            self.check(helper.TORUS, 1, row, moved, 1)

    def test_dimension_three(self):
        self.check(helper.TETRAHEDRON, 3, [0], [], 1)
        self.check(helper.THREE_SPHERE, 3, [0], [], 0)
        self.check(helper.THREE_SPHERE, 3, [0], [4], 1)
        self.check(helper.THREE_SPHERE, 3, [1, 2], [0, 3], 1)
        self.check(helper.THREE_SPHERE, 3, [1, 2], [3], 0)

    def test_several_parts(self):
        self.check(helper.PARTS, 0, [0, 1, 2], [7, 8], 0)
        self.check(helper.PARTS, 1, [0], [9], 0)
        self.check(helper.PARTS, 1, [0], [2, 9], 1)
        self.check(helper.PARTS, 3, [0], [], 1)

    def test_empty_rows(self):
        for dimension in range(4):
            self.check(helper.TORUS, dimension, [], [], 1)

    def test_the_empty_shape(self):
        calls = [same(dimension, [], []) for dimension in range(4)]
        self.assertEqual(ask(*calls), [[1]] * 4)
        self.assertEqual(ask_about([], *calls), [[1]] * 4)
        self.assertEqual(ask(same(0, [0], []), same(4, [], [])), [[-1], [-1]])

    def test_a_second_shape(self):
        self.assertEqual(
            ask(shape(helper.RING), same(1, [0, 1], [0]), shape(helper.EDGE), same(1, [0], [])),
            [[6], [0], [3], [1]],
        )

    def test_long_rows(self):
        corner = list(range(9))
        self.check(helper.ALL_EDGES, 1, list(range(45)), list(range(9, 45)), 1)
        self.check(helper.ALL_EDGES, 1, corner, [], 1)
        self.check(helper.ALL_EDGES, 1, list(range(45)), [], 0)


class Refused(unittest.TestCase):
    def check(self, simplices, dimension, row, other, answer):
        self.assertEqual(ask_about(simplices, same(dimension, row, other)), [[answer]], (dimension, row, other))
        self.assertEqual(ask_about(simplices, same(dimension, other, row)), [[answer]], (dimension, other, row))

    def test_one_is_no_cut(self):
        self.check(helper.TRIANGLE, 1, [0], [], -6)
        self.check(helper.TRIANGLE, 1, [0], [0, 1], -6)
        self.check(helper.EDGE, 0, [0], [0, 1], -6)
        self.check(helper.TETRAHEDRON, 2, [0], [], -6)

    def test_both_are_no_cut_though_their_sum_is_one(self):
        self.check(helper.TRIANGLE, 1, [0], [0], -6)
        self.check(helper.TRIANGLE, 1, [0], [1], -6)
        self.check(helper.EDGE, 0, [0], [1], -6)

    def test_a_dimension_above_three(self):
        for dimension in (4, 5, helper.TOP):
            self.check(helper.TETRAHEDRON, dimension, [], [], -1)
            self.check(helper.TETRAHEDRON, dimension, [0], [], -1)

    def test_a_row_does_not_rise(self):
        self.check(helper.RING, 1, [1, 0], [], -1)
        self.check(helper.RING, 1, [0, 2, 1], [0], -1)
        self.check(helper.RING, 1, [2, 2], [1], -1)
        self.check(helper.RING, 1, [1, 1], [1, 1], -1)

    def test_a_number_is_not_there(self):
        self.check(helper.RING, 1, [3], [], -1)
        self.check(helper.RING, 1, [0, helper.TOP], [0], -1)
        self.check(helper.RING, 2, [0], [], -1)
        self.check(helper.RING, 1, list(range(50)), list(range(50)), -1)

    def test_wrongly_told_comes_ahead_of_no_cut(self):
        for wrong in ([1, 0], [2, 2], [3], [helper.TOP]):
            self.check(helper.TRIANGLE, 1, [0], wrong, -1)

    def test_a_row_both_wrong_and_no_cut(self):
        self.check(helper.TRIANGLE, 1, [0, 3], [], -1)
        self.check(helper.TRIANGLE, 1, [0, 0], [0], -1)

    def test_all_is_as_it_was_behind_it(self):
        seen = [listed(1), count(), same(1, [0, 1], [])]
        ahead = ask_about(helper.TRIANGLE, *seen)
        for refused, answer in ((same(1, [0], []), -6), (same(1, [5], []), -1), (same(4, [], []), -1)):
            self.assertEqual(ask_about(helper.TRIANGLE, *seen, refused, *seen), ahead + [[answer]] + ahead)


if __name__ == "__main__":
    unittest.main()
