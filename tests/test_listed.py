import unittest

from tests import helper
from tests.helper import ask, ask_about, listed, shape


class Listed(unittest.TestCase):
    def test_a_point(self):
        self.assertEqual(ask_about(helper.POINT, listed(0), listed(1)), [[1, 1, 4], [0]])

    def test_a_triangle(self):
        self.assertEqual(
            ask_about([[7, 2, 5]], *[listed(dimension) for dimension in range(4)]),
            [[3, 1, 2, 1, 5, 1, 7], [3, 2, 2, 5, 2, 2, 7, 2, 5, 7], [1, 3, 2, 5, 7], [0]],
        )

    def test_a_ring_has_no_triangle(self):
        self.assertEqual(ask_about(helper.RING, listed(2)), [[0]])

    def test_a_tetrahedron(self):
        self.assertEqual(
            ask_about([[3, 9, 0, 4]], *[listed(dimension) for dimension in range(4)]),
            [
                [4, 1, 0, 1, 3, 1, 4, 1, 9],
                [6, 2, 0, 3, 2, 0, 4, 2, 0, 9, 2, 3, 4, 2, 3, 9, 2, 4, 9],
                [4, 3, 0, 3, 4, 3, 0, 3, 9, 3, 0, 4, 9, 3, 3, 4, 9],
                [1, 4, 0, 3, 4, 9],
            ],
        )

    def test_the_first_place_that_differs_decides(self):
        told = [[8, 9, 1], [3, 2, 9], [9, 2, 1], [3, 4, 2], [0, 9, 8]]
        self.assertEqual(
            ask_about(told, listed(2)),
            [[5, 3, 0, 8, 9, 3, 1, 2, 9, 3, 1, 8, 9, 3, 2, 3, 4, 3, 2, 3, 9]],
        )

    def test_several_parts(self):
        self.assertEqual(
            ask_about(helper.PARTS, listed(1), listed(3)),
            [
                [10, 2, 0, 1, 2, 0, 2, 2, 1, 2, 2, 3, 4, 2, 3, 5, 2, 3, 6,
                 2, 4, 5, 2, 4, 6, 2, 5, 6, 2, 7, 8],
                [1, 4, 3, 4, 5, 6],
            ],
        )

    def test_the_torus(self):
        parts = ask_about(helper.TORUS, *[listed(dimension) for dimension in range(4)])
        self.assertEqual([part[0] for part in parts], [7, 21, 14, 0])
        triangles = sorted(sorted(triangle) for triangle in helper.TORUS)
        self.assertEqual(parts[2], [14] + [number for t in triangles for number in [3] + t])

    def test_each_once(self):
        self.assertEqual(ask_about([[2, 1], [1, 2], [2], [2]], listed(0), listed(1)), [[2, 1, 1, 1, 2], [1, 2, 1, 2]])

    def test_a_dimension_above_three_has_none(self):
        high = [listed(4), listed(5), listed(helper.TOP)]
        self.assertEqual(ask_about(helper.TETRAHEDRON, *high), [[0], [0], [0]])
        self.assertEqual(ask(*high), [[0], [0], [0]])

    def test_the_empty_shape(self):
        calls = [listed(dimension) for dimension in range(4)]
        self.assertEqual(ask(*calls), [[0]] * 4)
        self.assertEqual(ask_about([], *calls), [[0]] * 4)

    def test_a_second_shape(self):
        self.assertEqual(
            ask(shape([[0, 1]]), listed(1), shape([[5, 2]]), listed(1), listed(0)),
            [[3], [1, 2, 0, 1], [3], [1, 2, 2, 5], [2, 1, 2, 1, 5]],
        )


if __name__ == "__main__":
    unittest.main()
