import unittest

from tests import helper
from tests.helper import ask, ask_about, count, cut, listed, shape


class Cut(unittest.TestCase):
    def check(self, simplices, dimension, row, answer):
        self.assertEqual(ask_about(simplices, cut(dimension, row)), [answer])

    def test_a_point(self):
        self.check(helper.POINT, 0, [0], [1, 0])
        self.check(helper.POINT, 0, [], [1, 0])

    def test_an_edge(self):
        self.check(helper.EDGE, 0, [0], [0, 1, 0])
        self.check(helper.EDGE, 0, [1], [0, 1, 0])
        self.check(helper.EDGE, 0, [0, 1], [1, 0])
        self.check(helper.EDGE, 1, [0], [1, 0])

    def test_a_ring(self):
        self.check(helper.RING, 0, [0], [0, 2, 0, 1])
        self.check(helper.RING, 0, [0, 2], [0, 2, 0, 2])
        self.check(helper.RING, 0, [0, 1, 2], [1, 0])
        self.check(helper.RING, 1, [0], [1, 0])
        self.check(helper.RING, 1, [0, 1, 2], [1, 0])

    def test_a_triangle(self):
        self.check(helper.TRIANGLE, 1, [1], [0, 1, 0])
        self.check(helper.TRIANGLE, 1, [0, 2], [1, 0])
        self.check(helper.TRIANGLE, 1, [0, 1, 2], [0, 1, 0])
        self.check(helper.TRIANGLE, 2, [0], [1, 0])

    def test_a_tetrahedron(self):
        # Edges 01 02 03 12 13 23, triangles 012 013 023 123.
        self.check(helper.TETRAHEDRON, 0, [1], [0, 3, 0, 3, 4])
        self.check(helper.TETRAHEDRON, 1, [0], [0, 2, 0, 1])
        self.check(helper.TETRAHEDRON, 1, [0, 5], [0, 4, 0, 1, 2, 3])
        self.check(helper.TETRAHEDRON, 1, [0, 1, 2], [1, 0])
        self.check(helper.TETRAHEDRON, 2, [2], [0, 1, 0])
        self.check(helper.TETRAHEDRON, 2, [0, 3], [1, 0])
        self.check(helper.TETRAHEDRON, 2, [0, 1, 3], [0, 1, 0])
        self.check(helper.TETRAHEDRON, 2, [0, 1, 2, 3], [1, 0])

    def test_dimension_three_has_nothing_round_it(self):
        self.check(helper.TETRAHEDRON, 3, [0], [1, 0])
        self.check(helper.TETRAHEDRON, 3, [], [1, 0])
        self.check(helper.THREE_SPHERE, 3, [0, 2, 3, 4], [1, 0])

    def test_several_parts(self):
        # Corners 0 1 2 are one part, 3 4 5 6, 7 8 and 9 the others.
        self.check(helper.PARTS, 0, [0, 1, 2, 7, 8], [1, 0])
        self.check(helper.PARTS, 0, [3, 7, 9], [0, 4, 3, 4, 5, 9])

    def test_the_torus(self):
        # Every edge is in two triangles, and every two corners have an edge.
        for edge in range(21):
            told = ask_about(helper.TORUS, cut(1, [edge]))[0]
            self.assertEqual(told[:2], [0, 2])
            self.assertLess(told[2], told[3])
        self.check(helper.TORUS, 0, [0], [0, 6, 0, 1, 2, 3, 4, 5])
        self.check(helper.TORUS, 2, list(range(14)), [1, 0])

    def test_what_is_round_a_row_has_nothing_round_it(self):
        for dimension in (0, 1):
            for number in range(5):
                around = ask_about(helper.THREE_SPHERE, cut(dimension, [number]))[0][2:]
                self.check(helper.THREE_SPHERE, dimension + 1, around, [1, 0])

    def test_empty_rows(self):
        for dimension in range(4):
            self.check(helper.TORUS, dimension, [], [1, 0])

    def test_the_empty_shape(self):
        calls = [cut(dimension, []) for dimension in range(4)]
        self.assertEqual(ask(*calls), [[1, 0]] * 4)
        self.assertEqual(ask_about([], *calls), [[1, 0]] * 4)
        self.assertEqual(ask(cut(0, [0]), cut(3, [0]), cut(4, [])), [[-1]] * 3)

    def test_a_long_row(self):
        self.check(helper.ALL_EDGES, 1, list(range(45)), [1, 0])
        self.check(helper.SEVENTY, 1, list(range(45)), [0, 15] + list(range(15)))

    def test_a_second_shape(self):
        self.assertEqual(
            ask(shape(helper.RING), cut(1, [0]), shape(helper.TRIANGLE), cut(1, [0])),
            [[6], [1, 0], [7], [0, 1, 0]],
        )


class WronglyTold(unittest.TestCase):
    def check(self, dimension, row):
        self.assertEqual(ask_about(helper.TETRAHEDRON, cut(dimension, row)), [[-1]], (dimension, row))

    def test_a_dimension_above_three(self):
        for dimension in (4, 5, helper.TOP):
            self.check(dimension, [])
            self.check(dimension, [0])

    def test_a_row_that_falls(self):
        self.check(1, [1, 0])
        self.check(1, [0, 2, 1])
        self.check(1, [3, 4, 5, 0])

    def test_a_number_twice(self):
        self.check(0, [0, 0])
        self.check(1, [0, 3, 3, 5])
        self.check(3, [0, 0])

    def test_a_number_that_is_not_there(self):
        for dimension, many in enumerate((4, 6, 4, 1)):
            self.check(dimension, [many])
            self.check(dimension, [0, many])
            self.check(dimension, [helper.TOP])
            self.assertEqual(ask_about(helper.TETRAHEDRON, cut(dimension, [many - 1]))[0][0] in (0, 1), True)

    def test_a_ring_has_no_triangle(self):
        self.assertEqual(ask_about(helper.RING, cut(2, [0]), cut(3, [0]), cut(2, [])), [[-1], [-1], [1, 0]])

    def test_fifty_numbers(self):
        self.check(1, list(range(50)))
        self.check(1, [0] * 50)

    def test_all_is_as_it_was_behind_it(self):
        seen = [listed(1), count(), cut(1, [2])]
        self.assertEqual(
            ask_about(helper.RING, *seen, cut(1, [3]), *seen),
            ask_about(helper.RING, *seen) + [[-1]] + ask_about(helper.RING, *seen),
        )


if __name__ == "__main__":
    unittest.main()
