import unittest

from tests import helper
from tests.helper import ask, ask_about, count, cut, same, shape


class Count(unittest.TestCase):
    def check(self, simplices, most):
        self.assertEqual(ask_about(simplices, count()), [most])

    def test_shapes_without_holes(self):
        self.check(helper.POINT, [1, 0, 0, 0])
        self.check(helper.EDGE, [1, 0, 0, 0])
        self.check(helper.TRIANGLE, [1, 0, 0, 0])
        self.check(helper.TETRAHEDRON, [1, 0, 0, 0])

    def test_shapes_with_holes(self):
        self.check(helper.RING, [1, 1, 0, 0])
        self.check(helper.HOLLOW_TETRAHEDRON, [1, 0, 1, 0])
        self.check(helper.THREE_SPHERE, [1, 0, 0, 1])

    def test_the_torus_has_as_many_as_a_ball_with_two_rings(self):
        self.check(helper.TORUS, [1, 2, 1, 0])
        self.check(helper.BALL_WITH_RINGS, [1, 2, 1, 0])

    def test_by_twos(self):
        self.check(helper.PROJECTIVE_PLANE, [1, 1, 1, 0])

    def test_several_parts(self):
        self.check(helper.PARTS, [4, 1, 0, 0])
        self.check([[k] for k in range(10)], [10, 0, 0, 0])
        self.check(helper.RING + [[5, 6, 7, 8], [9]], [3, 1, 0, 0])

    def test_all_edges_between_ten_corners(self):
        self.check(helper.ALL_EDGES, [1, 36, 0, 0])

    def test_seventy_simplices(self):
        # Fifteen triangles without a closed surface among them fill fifteen of the 36 rings.
        self.check(helper.SEVENTY, [1, 21, 0, 0])

    def test_order_and_repeats_are_nothing_to_it(self):
        turned = [list(reversed(t)) for t in reversed(helper.TORUS)]
        self.check(turned + helper.TORUS[:5], [1, 2, 1, 0])

    def test_the_empty_shape(self):
        self.assertEqual(ask(count()), [[0, 0, 0, 0]])
        self.check([], [0, 0, 0, 0])

    def test_a_second_shape(self):
        self.assertEqual(
            ask(shape(helper.TORUS), count(), shape(helper.POINT), count()),
            [[42], [1, 2, 1, 0], [1], [1, 0, 0, 0]],
        )

    def test_refusals_of_other_calls_change_nothing(self):
        self.assertEqual(
            ask_about(helper.RING, cut(1, [3]), same(0, [0], []), same(4, [], []), count()),
            [[-1], [-6], [-1], [1, 1, 0, 0]],
        )


if __name__ == "__main__":
    unittest.main()
