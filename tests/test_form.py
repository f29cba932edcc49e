import random
import unittest

from tests import helper
from tests.helper import ask, ask_about, check_refused, form, shape


class Form(unittest.TestCase):
    def check(self, simplices, answer):
        self.assertEqual(ask_about(simplices, form()), [answer])

    def test_no_cut_of_dimension_one_is_worth_something(self):
        self.check(helper.POINT, [0, 0])
        self.check(helper.EDGE, [0, 0])
        self.check(helper.TRIANGLE, [0, 0])
        self.check(helper.TETRAHEDRON, [0, 0])
        self.check(helper.HOLLOW_TETRAHEDRON, [0, 0])
        self.check(helper.THREE_SPHERE, [0, 0])
        self.check([[k] for k in range(10)], [0, 0])

    def test_rings(self):
        self.check(helper.RING, [1, 1])
        self.check(helper.RING + [[2, 3], [3, 4], [4, 2]], [2, 2])
        self.check(helper.RING + [[5, 6], [6, 7], [7, 5]], [2, 2])

    def test_the_torus_is_not_a_ball_with_two_loose_rings(self):
        self.check(helper.TORUS, [2, 0])
        self.check(helper.BALL_WITH_RINGS, [2, 2])

    def test_other_surfaces(self):
        self.check(helper.PROJECTIVE_PLANE, [1, 0])
        self.check(helper.KLEIN_BOTTLE, [2, 0])

    def test_surfaces_with_a_hole(self):
        for number in (0, 5, 9):
            self.check(helper.TORUS[:number] + helper.TORUS[number + 1:], [2, 2])
            self.check(helper.PROJECTIVE_PLANE[:number] + helper.PROJECTIVE_PLANE[number + 1:], [1, 1])

    def test_two_surfaces_together(self):
        self.check(helper.TWO_PLANES, [2, 0])
        self.check(helper.TORUS_AND_PLANE, [3, 0])

    def test_surfaces_with_loose_rings(self):
        self.check(helper.PROJECTIVE_PLANE + [[0, 6], [6, 7], [7, 0]], [2, 1])
        self.check(helper.TORUS + [[0, 7], [7, 1]], [3, 1])
        self.check(helper.TORUS + [[0, 7], [7, 8], [8, 0], [3, 9], [9, 4]], [4, 2])

    def test_several_parts(self):
        self.check(helper.PARTS, [1, 1])
        self.check(helper.PROJECTIVE_PLANE + [[6, 7], [7, 8], [8, 6], [9]], [2, 1])
        self.check(helper.TORUS + [[7, 8], [8, 9], [9, 7]], [3, 1])

    def test_just_six(self):
        self.check(helper.SIX_RINGS, [6, 6])
        self.check(helper.TORUS + [[7, k] for k in range(5)], [6, 4])
        self.check(helper.SIXTY_NINE_WITH_SIX, [6, 3])
        self.check(helper.SEVENTY_WITH_SIX, [6, 4])

    def test_other_names_of_the_corners_are_nothing_to_it(self):
        source = random.Random(7)
        told = (
            (helper.TORUS, [2, 0]), (helper.KLEIN_BOTTLE, [2, 0]), (helper.BALL_WITH_RINGS, [2, 2]),
            (helper.PROJECTIVE_PLANE + [[0, 6], [6, 7], [7, 0]], [2, 1]), (helper.TORUS_AND_PLANE, [3, 0]),
            (helper.SIXTY_NINE_WITH_SIX, [6, 3]), (helper.SEVENTY_WITH_SIX, [6, 4]),
        )
        for simplices, answer in told:
            for again in range(12):
                names = source.sample(range(10), 10)
                self.check([[names[corner] for corner in simplex] for simplex in simplices], answer)

    def test_the_empty_shape(self):
        self.assertEqual(ask(form()), [[0, 0]])
        self.check([], [0, 0])

    def test_a_second_shape(self):
        self.assertEqual(
            ask(shape(helper.TORUS), form(), shape(helper.POINT), form(), shape(helper.RING), form()),
            [[42], [2, 0], [1], [0, 0], [6], [1, 1]],
        )


class Refused(unittest.TestCase):
    def check(self, simplices):
        check_refused(self, simplices, form(), -5)

    def test_seven(self):
        self.check(helper.SEVEN_RINGS)
        self.check(helper.TORUS + [[7, k] for k in range(6)])
        self.check(helper.SEVENTY_WITH_SEVEN)

    def test_far_more(self):
        self.check(helper.ALL_EDGES)
        self.check(helper.SEVENTY)

    def test_a_shape_behind_it_is_answered(self):
        self.assertEqual(
            ask(shape(helper.SEVEN_RINGS), form(), shape(helper.SIX_RINGS), form()),
            [[18], [-5], [15], [6, 6]],
        )


if __name__ == "__main__":
    unittest.main()
