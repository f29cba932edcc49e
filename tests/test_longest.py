"""What longest answers.

No shape of 10 corners and 70 simplices has the answer 3, so that there is no test of it here; larger shapes
that have it are asked without the call, in test_larger.py. Why there is none:

Three cuts of dimension 1 would have a product that crosses some cycle of dimension 3 an odd number of times.
Take that cycle's tetrahedra alone, with their faces. Where a shape is what lies at two of its corners, each
cut of dimension 1 is worth nothing at either, and so each product of two is worth nothing. So of any two
corners some tetrahedron has neither. All three cuts are worth nothing near it, so that two of them have a
product that's worth something on the other six corners. Likewise, of those some triangle has neither of the
two, and on the three corners that are left a cut is worth something: they are a ring, and the two are joined.
So all ten corners are joined, by 45 edges. At least three tetrahedra of a cycle lie at each of its edges, and
each has six edges: there are at least 23. With the corners and edges, that's more than 70.
"""

import random
import unittest

from tests import helper
from tests.helper import ask, ask_about, check_refused, longest, shape


class Longest(unittest.TestCase):
    def check(self, simplices, answer):
        self.assertEqual(ask_about(simplices, longest()), [[answer]])

    def test_each_cut_is_worth_nothing(self):
        self.check(helper.POINT, 0)
        self.check(helper.EDGE, 0)
        self.check(helper.TRIANGLE, 0)
        self.check(helper.TETRAHEDRON, 0)
        self.check([[0, 1, 2, 3], [0, 1, 2, 4], [4, 5]], 0)

    def test_cuts_of_dimension_zero_do_not_count(self):
        self.check([[k] for k in range(10)], 0)
        self.check([[0, 1], [2, 3, 4], [5, 6, 7, 8], [9]], 0)

    def test_dimension_one_alone(self):
        self.check(helper.RING, 1)
        self.check(helper.PARTS, 1)
        self.check(helper.RING + [[2, 3], [3, 4], [4, 2]], 1)

    def test_dimension_two_alone(self):
        self.check(helper.HOLLOW_TETRAHEDRON, 1)
        self.check(helper.HOLLOW_TETRAHEDRON + [[0, 1, 4], [0, 2, 4], [1, 2, 4]], 1)

    def test_dimension_three_alone(self):
        self.check(helper.THREE_SPHERE, 1)

    def test_several_dimensions_without_a_product(self):
        self.check(helper.BALL_WITH_RINGS, 1)
        self.check(helper.THREE_SPHERE + [[0, 5], [5, 6], [6, 0]], 1)
        self.check(helper.THREE_SPHERE + [[0, 5, 6], [0, 5, 7], [0, 6, 7], [5, 6, 7], [7, 8], [8, 9], [9, 7]], 1)

    def test_two_different_ones(self):
        self.check(helper.TORUS, 2)

    def test_one_by_itself(self):
        self.check(helper.PROJECTIVE_PLANE, 2)
        self.check(helper.KLEIN_BOTTLE, 2)

    def test_two_among_others(self):
        self.check(helper.TWO_PLANES, 2)
        self.check(helper.TORUS_AND_PLANE, 2)
        self.check(helper.TORUS + [[0, 7], [7, 8], [8, 0]], 2)
        self.check(helper.PROJECTIVE_PLANE + [[6, 7], [7, 8], [8, 6], [9]], 2)

    def test_surfaces_with_a_hole(self):
        for number in (0, 5, 9):
            self.check(helper.TORUS[:number] + helper.TORUS[number + 1:], 1)
            self.check(helper.PROJECTIVE_PLANE[:number] + helper.PROJECTIVE_PLANE[number + 1:], 1)

    def test_just_six(self):
        self.check(helper.SIX_RINGS, 1)
        self.check(helper.TORUS + [[7, k] for k in range(5)], 2)
        self.check(helper.SIXTY_NINE_WITH_SIX, 2)
        self.check(helper.SEVENTY_WITH_SIX, 2)

    def test_more_than_six_of_another_dimension(self):
        # All triangles between six corners have ten independent cuts, all of dimension 2.
        self.check([[a, b, c] for a in range(6) for b in range(a) for c in range(b)], 1)
        self.check([[k] for k in range(10)], 0)

    def test_other_names_of_the_corners_are_nothing_to_it(self):
        source = random.Random(8)
        told = (
            (helper.TORUS, 2), (helper.PROJECTIVE_PLANE, 2), (helper.KLEIN_BOTTLE, 2),
            (helper.BALL_WITH_RINGS, 1), (helper.SEVENTY_WITH_SIX, 2), (helper.TETRAHEDRON, 0),
        )
        for simplices, answer in told:
            for again in range(12):
                names = source.sample(range(10), 10)
                self.check([[names[corner] for corner in simplex] for simplex in simplices], answer)

    def test_the_empty_shape(self):
        self.assertEqual(ask(longest()), [[0]])
        self.check([], 0)

    def test_a_second_shape(self):
        self.assertEqual(
            ask(shape(helper.TORUS), longest(), shape(helper.POINT), longest(), shape(helper.RING), longest()),
            [[42], [2], [1], [0], [6], [1]],
        )


class Refused(unittest.TestCase):
    def check(self, simplices):
        check_refused(self, simplices, longest(), -5)

    def test_seven(self):
        self.check(helper.SEVEN_RINGS)
        self.check(helper.TORUS + [[7, k] for k in range(6)])
        self.check(helper.SEVENTY_WITH_SEVEN)

    def test_far_more(self):
        self.check(helper.ALL_EDGES)
        self.check(helper.SEVENTY)

    def test_a_shape_behind_it_is_answered(self):
        self.assertEqual(
            ask(shape(helper.SEVEN_RINGS), longest(), shape(helper.SIX_RINGS), longest()),
            [[18], [-5], [15], [1]],
        )


if __name__ == "__main__":
    unittest.main()
