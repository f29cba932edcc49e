import unittest
from itertools import combinations, permutations

from tests import helper
from tests.helper import ask, count, cut, listed, same, shape

SEEN_OF_TRIANGLE = [
    [1, 0, 0, 0],
    [3, 1, 0, 1, 1, 1, 2],
    [3, 2, 0, 1, 2, 0, 2, 2, 1, 2],
    [1, 3, 0, 1, 2],
    [0],
    [0, 1, 0],
    [1],
]


def look():
    """Calls that show whether the shape is still the triangle."""
    return [count(), listed(0), listed(1), listed(2), listed(3), cut(1, [0]), same(1, [0, 1], [])]


class Accepted(unittest.TestCase):
    def check(self, simplices, many):
        self.assertEqual(ask(shape(simplices)), [[many]])

    def test_how_many_with_all_faces(self):
        self.check(helper.POINT, 1)
        self.check(helper.EDGE, 3)
        self.check(helper.RING, 6)
        self.check(helper.TRIANGLE, 7)
        self.check(helper.TETRAHEDRON, 15)
        self.check(helper.HOLLOW_TETRAHEDRON, 14)
        self.check(helper.THREE_SPHERE, 30)
        self.check(helper.TORUS, 42)
        self.check(helper.PROJECTIVE_PLANE, 31)
        self.check(helper.PARTS, 25)

    def test_no_simplices(self):
        self.check([], 0)

    def test_each_corner_alone(self):
        for corner in range(10):
            self.check([[corner]], 1)

    def test_corners_in_whatever_order(self):
        for corners in permutations([2, 5, 7, 9]):
            self.assertEqual(
                ask(shape([list(corners)]), listed(3), listed(0)),
                [[15], [1, 4, 2, 5, 7, 9], [4, 1, 2, 1, 5, 1, 7, 1, 9]],
            )

    def test_a_simplex_twice_counts_once(self):
        self.check([[3, 1], [1, 3], [3, 1]], 3)
        self.check([[0, 1, 2], [1], [2, 0], [1, 2, 0]], 7)

    def test_many_handed_over_and_few_there(self):
        tetrahedra = [list(t) for t in permutations([6, 7, 8, 9])]
        self.check((tetrahedra * 3)[:70], 15)
        self.check([[5]] * 70, 1)

    def test_a_second_shape_takes_the_place_of_the_first(self):
        calls = [shape(helper.TETRAHEDRON), shape(helper.TRIANGLE)] + look()
        self.assertEqual(ask(*calls), [[15], [7]] + SEEN_OF_TRIANGLE)

    def test_a_second_shape_of_no_simplices(self):
        calls = [shape(helper.TORUS), shape([]), count(), listed(0), listed(1), cut(0, [0])]
        self.assertEqual(ask(*calls), [[42], [0], [0, 0, 0, 0], [0], [0], [-1]])


class Most(unittest.TestCase):
    def test_seventy_are_taken(self):
        self.assertEqual(len(helper.SEVENTY), 60)
        self.assertEqual(ask(shape(helper.SEVENTY), count())[0], [70])

    def test_seventy_told_one_by_one_are_taken(self):
        told = [[corner] for corner in range(10)] + helper.SEVENTY
        self.assertEqual(len(told), 70)
        self.assertEqual(ask(shape(told)), [[70]])

    def test_one_more_is_refused(self):
        self.assertEqual(ask(shape(helper.SEVENTY_ONE)), [[-2]])

    def test_far_more_is_refused(self):
        tetrahedra = [list(t) for t in combinations(range(10), 4)]
        self.assertEqual(ask(shape(tetrahedra[:70])), [[-2]])

    def test_all_is_as_it_was_behind_it(self):
        calls = [shape(helper.TRIANGLE), shape(helper.SEVENTY_ONE)] + look()
        self.assertEqual(ask(*calls), [[7], [-2]] + SEEN_OF_TRIANGLE)

    def test_the_empty_shape_stays_empty_behind_it(self):
        self.assertEqual(ask(shape(helper.SEVENTY_ONE), listed(0), count()), [[-2], [0], [0, 0, 0, 0]])


class WronglyTold(unittest.TestCase):
    wrong = [
        [],
        [0, 1, 2, 3, 4],
        [0, 1, 2, 3, 4, 5],
        [0, 0, 0, 0, 0],
        [0, 0],
        [3, 1, 3],
        [1, 2, 2, 4],
        [5, 1, 2, 5],
        [-1],
        [10],
        [0, -1],
        [10, 0],
        [0, 1, 2, 10],
        [-1, 1, 2, 3],
        [helper.TOP],
        [-helper.TOP],
        [4, helper.TOP, 5],
    ]

    def test_each_alone(self):
        for corners in self.wrong:
            self.assertEqual(ask(shape([corners])), [[-1]], corners)

    def test_each_at_any_place_among_right_ones(self):
        for corners in self.wrong:
            for place in range(3):
                told = [[0, 1], [2, 3]]
                told.insert(place, corners)
                self.assertEqual(ask(shape(told)), [[-1]], told)

    def test_all_is_as_it_was_behind_it(self):
        for corners in self.wrong:
            calls = [shape(helper.TRIANGLE), shape([[7, 8], corners])] + look()
            self.assertEqual(ask(*calls), [[7], [-1]] + SEEN_OF_TRIANGLE, corners)

    def test_ahead_of_too_many(self):
        for corners in self.wrong:
            self.assertEqual(ask(shape(helper.SEVENTY_ONE + [corners])), [[-1]], corners)
            self.assertEqual(ask(shape([corners] + helper.SEVENTY_ONE)), [[-1]], corners)

    def test_a_shape_is_taken_behind_a_refused_one(self):
        self.assertEqual(ask(shape([[]]), shape([[1]]), listed(0)), [[-1], [1], [1, 1, 1]])


if __name__ == "__main__":
    unittest.main()
