import unittest

from tests import helper
from tests.helper import ask, ask_about, check_refused, crosses, cut, shape

A = helper.TORUS_CUT
B = helper.OTHER_TORUS_CUT


def torus_ring(*corners):
    """The edges from each of the corners to the next one, and from the last one to the first."""
    edges = [tuple(sorted(edge)) for edge in zip(corners, corners[1:] + corners[:1])]
    return sorted(helper.TORUS_EDGES.index(edge) for edge in edges)


class Crosses(unittest.TestCase):
    def check(self, simplices, dimension, row, cycle, answer):
        self.assertEqual(ask_about(simplices, crosses(dimension, row, cycle)), [[answer]], (dimension, row, cycle))

    def test_at_dimension_zero_each_row_is_a_cycle(self):
        self.check(helper.POINT, 0, [0], [0], 1)
        self.check(helper.EDGE, 0, [0, 1], [0], 1)
        self.check(helper.EDGE, 0, [0, 1], [1], 1)
        self.check(helper.EDGE, 0, [0, 1], [0, 1], 0)
        self.check(helper.TORUS, 0, list(range(7)), [0, 3, 5], 1)
        self.check(helper.TORUS, 0, list(range(7)), [0, 3, 5, 6], 0)
        self.check(helper.PARTS, 0, [0, 1, 2, 9], [2, 3, 8], 1)
        self.check(helper.PARTS, 0, [0, 1, 2, 9], [2, 3, 9], 0)
        self.check(helper.PARTS, 0, [0, 1, 2, 9], [3, 4, 8], 0)

    def test_a_ring(self):
        self.check(helper.RING, 1, [0], [0, 1, 2], 1)
        self.check(helper.RING, 1, [2], [0, 1, 2], 1)
        self.check(helper.RING, 1, [0, 1], [0, 1, 2], 0)
        self.check(helper.RING, 1, [1, 2], [0, 1, 2], 0)
        self.check(helper.RING, 1, [0, 1, 2], [0, 1, 2], 1)

    def test_a_filled_ring(self):
        self.check(helper.TRIANGLE, 1, [0, 1], [0, 1, 2], 0)
        self.check(helper.TRIANGLE, 1, [0, 2], [0, 1, 2], 0)

    def test_the_torus(self):
        # A triangle has a step of 1, one of 2 and one of 3; seven steps of 1 go round, and so do seven of 2.
        for corner in range(7):
            filled = torus_ring(corner, (corner + 1) % 7, (corner + 3) % 7)
            self.check(helper.TORUS, 1, A, filled, 0)
            self.check(helper.TORUS, 1, B, filled, 0)
        by_ones = torus_ring(0, 1, 2, 3, 4, 5, 6)
        self.check(helper.TORUS, 1, A, by_ones, 1)
        self.check(helper.TORUS, 1, B, by_ones, 0)
        by_twos = torus_ring(0, 2, 4, 6, 1, 3, 5)
        self.check(helper.TORUS, 1, A, by_twos, 0)
        self.check(helper.TORUS, 1, B, by_twos, 1)

    def test_what_is_round_a_corner_crosses_evenly(self):
        by_ones = torus_ring(0, 1, 2, 3, 4, 5, 6)
        for corner in range(7):
            around = ask_about(helper.TORUS, cut(0, [corner]))[0][2:]
            self.check(helper.TORUS, 1, around, by_ones, 0)

    def test_surfaces(self):
        for simplices in (helper.HOLLOW_TETRAHEDRON, helper.TORUS, helper.PROJECTIVE_PLANE, helper.KLEIN_BOTTLE):
            whole = list(range(len(simplices)))
            for number in whole:
                self.check(simplices, 2, [number], whole, 1)
            self.check(simplices, 2, [0, 2], whole, 0)
            self.check(simplices, 2, [0, 2, 3], whole, 1)
            self.check(simplices, 2, whole, whole, 0)

    def test_a_surface_within_a_tetrahedron(self):
        self.check(helper.TETRAHEDRON, 2, [0, 3], [0, 1, 2, 3], 0)

    def test_dimension_three(self):
        whole = [0, 1, 2, 3, 4]
        self.check(helper.THREE_SPHERE, 3, [0], whole, 1)
        self.check(helper.THREE_SPHERE, 3, [1, 4], whole, 0)
        self.check(helper.THREE_SPHERE, 3, [1, 2, 4], whole, 1)
        self.check(helper.THREE_SPHERE, 3, whole, whole, 1)

    def test_more_meet_in_one_corner(self):
        # Edges 01 02 03 04 12 34: two rings with the corner 0, in which four edges meet.
        rings = [[0, 1], [1, 2], [0, 2], [0, 3], [3, 4], [0, 4]]
        self.check(rings, 1, [4], [0, 1, 2, 3, 4, 5], 1)
        self.check(rings, 1, [4, 5], [0, 1, 2, 3, 4, 5], 0)
        self.check(rings, 1, [4, 5], [0, 1, 4], 1)

    def test_empty_rows(self):
        for dimension in range(4):
            self.check(helper.THREE_SPHERE, dimension, [], [], 0)
        self.check(helper.RING, 1, [0], [], 0)
        self.check(helper.RING, 1, [], [0, 1, 2], 0)
        self.check(helper.EDGE, 0, [], [0], 0)
        self.check(helper.RING, 2, [], [], 0)

    def test_the_empty_shape(self):
        calls = [crosses(dimension, [], []) for dimension in range(4)]
        self.assertEqual(ask(*calls), [[0]] * 4)
        self.assertEqual(ask_about([], *calls), [[0]] * 4)
        refused = [crosses(4, [], []), crosses(0, [0], []), crosses(0, [], [0])]
        self.assertEqual(ask(*refused), [[-1]] * 3)
        self.assertEqual(ask_about([], *refused), [[-1]] * 3)

    def test_long_rows(self):
        # At each corner nine edges meet; without five that have no corner in common it's eight.
        apart = [helper.ALL_EDGES.index([k, k + 1]) for k in (0, 2, 4, 6, 8)]
        cycle = [number for number in range(45) if number not in apart]
        self.check(helper.ALL_EDGES, 1, list(range(45)), cycle, 0)
        self.check(helper.ALL_EDGES, 1, list(range(1, 45)), cycle, 0)
        self.check(helper.ALL_EDGES, 1, list(range(2, 45)), cycle, 1)

    def test_a_second_shape(self):
        self.assertEqual(
            ask(shape(helper.RING), crosses(1, [0], [0, 1, 2]), shape(helper.TRIANGLE), crosses(1, [0], [0, 1, 2])),
            [[6], [1], [7], [-6]],
        )


class Refused(unittest.TestCase):
    def check(self, simplices, dimension, row, cycle, refusal):
        check_refused(self, simplices, crosses(dimension, row, cycle), refusal)

    def test_no_cut(self):
        self.check(helper.EDGE, 0, [0], [0], -6)
        self.check(helper.EDGE, 0, [0], [], -6)
        self.check(helper.TRIANGLE, 1, [0], [0, 1, 2], -6)
        self.check(helper.TRIANGLE, 1, [0, 1, 2], [0, 1, 2], -6)
        self.check(helper.TETRAHEDRON, 2, [0], [0, 1, 2, 3], -6)

    def test_no_cycle(self):
        self.check(helper.RING, 1, [0], [0], -6)
        self.check(helper.RING, 1, [0], [0, 1], -6)
        self.check(helper.RING, 1, [], [2], -6)
        self.check(helper.HOLLOW_TETRAHEDRON, 2, [0], [0, 1, 2], -6)
        self.check(helper.TETRAHEDRON, 3, [0], [0], -6)
        self.check(helper.THREE_SPHERE, 3, [0], [0, 1, 2, 3], -6)

    def test_a_cut_that_is_no_cycle_and_a_cycle_that_is_no_cut(self):
        self.check(helper.TRIANGLE, 1, [0, 1], [0, 1], -6)
        self.check(helper.TRIANGLE, 1, [0, 1, 2], [], -6)

    def test_neither(self):
        self.check(helper.TRIANGLE, 1, [0], [0], -6)

    def test_a_dimension_above_three(self):
        for dimension in (4, 5, helper.TOP):
            self.check(helper.TETRAHEDRON, dimension, [], [], -1)
            self.check(helper.TETRAHEDRON, dimension, [0], [], -1)
            self.check(helper.TETRAHEDRON, dimension, [], [0], -1)

    def test_a_row_does_not_rise(self):
        for wrong in ([1, 0], [0, 2, 1], [2, 1, 0], [2, 2], [0, 0, 1, 2], [0, 1, 2, 2]):
            self.check(helper.RING, 1, wrong, [0, 1, 2], -1)
            self.check(helper.RING, 1, [0], wrong, -1)
            self.check(helper.RING, 0, [0, 1, 2], wrong, -1)

    def test_a_number_is_not_there(self):
        for dimension, many in enumerate((4, 6, 4, 1)):
            for wrong in ([many], [0, many], [helper.TOP]):
                self.check(helper.TETRAHEDRON, dimension, wrong, [], -1)
                self.check(helper.TETRAHEDRON, dimension, [], wrong, -1)
        self.check(helper.RING, 2, [], [0], -1)
        self.check(helper.RING, 1, list(range(50)), list(range(50)), -1)

    def test_wrongly_told_comes_ahead(self):
        for wrong in ([1, 0], [2, 2], [3], [helper.TOP]):
            self.check(helper.TRIANGLE, 1, [0], wrong, -1)
            self.check(helper.TRIANGLE, 1, wrong, [0], -1)
        self.check(helper.TRIANGLE, 1, [0, 3], [], -1)
        self.check(helper.TRIANGLE, 1, [], [0, 0], -1)


if __name__ == "__main__":
    unittest.main()
