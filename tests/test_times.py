import unittest
from itertools import combinations

from tests import helper
from tests.helper import added, ask, ask_about, check_refused, cut, same, shape, times

A = helper.TORUS_CUT
B = helper.OTHER_TORUS_CUT
ALL_SEVEN = list(range(7))


def cuts_of_the_plane():
    """All cuts of dimension 1 of the projective plane: of each triangle's edges an even number is in one."""
    edges = list(combinations(range(6), 2))
    borders = [[edges.index(edge) for edge in combinations(sorted(t), 2)] for t in helper.PROJECTIVE_PLANE]
    cuts = []
    for told in range(2 ** 15):
        if all(sum(told >> number & 1 for number in border) % 2 == 0 for border in borders):
            cuts.append([number for number in range(15) if told >> number & 1])
    return cuts


class Answered(unittest.TestCase):
    def check(self, simplices, p, q, row, other, answer):
        self.assertEqual(ask_about(simplices, times(p, q, row, other)), [answer], (p, q, row, other))

    def worth(self, simplices, p, q, row, other):
        return ask_about(simplices, times(p, q, row, other))[0][0]


class Times(Answered):

    def test_a_product_worth_nothing_and_yet_not_empty(self):
        # Edges 01 02 12: the first two corners are 01, the last two 12.
        self.check(helper.TRIANGLE, 1, 1, [0, 1], [0, 2], [0, 1, 0])
        self.check(helper.TRIANGLE, 1, 1, [0, 2], [0, 2], [0, 1, 0])

    def test_the_order_of_the_two(self):
        self.check(helper.TRIANGLE, 1, 1, [0, 1], [1, 2], [0, 1, 0])
        self.check(helper.TRIANGLE, 1, 1, [1, 2], [0, 1], [0, 0])

    def test_the_edge_between_first_and_last_corner_counts_for_neither(self):
        self.check(helper.TRIANGLE, 1, 1, [0, 1], [0, 1], [0, 0])
        self.check(helper.TRIANGLE, 1, 1, [1, 2], [1, 2], [0, 0])

    def test_corners_in_order_decide_and_not_as_they_were_told(self):
        self.check([[9, 4, 6]], 1, 1, [0, 1], [1, 2], [0, 1, 0])
        self.check([[6, 9, 4]], 1, 1, [1, 2], [0, 1], [0, 0])

    def test_the_torus(self):
        self.assertEqual(self.worth(helper.TORUS, 1, 1, A, B), 1)
        self.assertEqual(self.worth(helper.TORUS, 1, 1, B, A), 1)
        both = added(A, B)
        self.assertEqual(self.worth(helper.TORUS, 1, 1, A, both), 1)
        self.assertEqual(self.worth(helper.TORUS, 1, 1, both, B), 1)
        for row in (A, B, both):
            self.assertEqual(self.worth(helper.TORUS, 1, 1, row, row), 0)

    def test_the_row_on_the_torus(self):
        triangles = sorted(sorted(triangle) for triangle in helper.TORUS)
        for row, other in ((A, B), (B, A), (A, A)):
            found = []
            for number, (a, b, c) in enumerate(triangles):
                first = helper.TORUS_EDGES.index((a, b))
                last = helper.TORUS_EDGES.index((b, c))
                if first in row and last in other:
                    found.append(number)
            self.assertEqual(ask_about(helper.TORUS, times(1, 1, row, other))[0][1:], [len(found)] + found)
        self.assertNotEqual(
            ask_about(helper.TORUS, times(1, 1, A, B)), ask_about(helper.TORUS, times(1, 1, B, A)),
        )

    def test_what_it_is_worth_hangs_on_what_the_cuts_are_worth(self):
        for corner in range(7):
            around = ask_about(helper.TORUS, cut(0, [corner]))[0][2:]
            self.assertEqual(self.worth(helper.TORUS, 1, 1, added(A, around), B), 1)
            self.assertEqual(self.worth(helper.TORUS, 1, 1, A, added(B, around)), 1)
            self.assertEqual(self.worth(helper.TORUS, 1, 1, A, added(A, around)), 0)
            self.assertEqual(self.worth(helper.TORUS, 1, 1, around, B), 0)
            self.assertEqual(self.worth(helper.TORUS, 1, 1, A, around), 0)

    def test_a_ball_with_two_loose_rings(self):
        # Edges 01 02 03 04 05 06 07 12 13 23 45 67; the cuts are an edge of a ring each, or a corner's edges.
        cuts = [[3], [4], [10], [5], [6], [11], [3, 5], [4, 11], [0, 1, 2], [0, 7, 8], [0, 1, 2, 3, 5]]
        for row in cuts:
            for other in cuts:
                self.assertEqual(self.worth(helper.BALL_WITH_RINGS, 1, 1, row, other), 0)

    def test_a_cut_by_itself_on_the_projective_plane(self):
        cuts = cuts_of_the_plane()
        self.assertEqual(len(cuts), 64)
        # Half of them are worth nothing, and each of the others gives something by itself.
        something = [row for row in cuts if self.worth(helper.PROJECTIVE_PLANE, 1, 1, row, row) == 1]
        self.assertEqual(
            something, [row for row in cuts if ask_about(helper.PROJECTIVE_PLANE, same(1, row, [])) == [[0]]],
        )
        self.assertEqual(len(something), 32)
        for row in something[:6]:
            for other in something[-6:]:
                self.assertEqual(self.worth(helper.PROJECTIVE_PLANE, 1, 1, row, other), 1)


class AtDimensionZero(Answered):
    def test_together_zero(self):
        self.check(helper.POINT, 0, 0, [0], [0], [1, 1, 0])
        self.check(helper.PARTS, 0, 0, [0, 1, 2], [7, 8], [0, 0])
        self.check(helper.PARTS, 0, 0, [0, 1, 2, 9], [7, 8, 9], [1, 1, 9])
        self.check(helper.PARTS, 0, 0, [0, 1, 2], [0, 1, 2], [1, 3, 0, 1, 2])
        self.check(helper.PARTS, 0, 0, [0, 1, 2], [], [0, 0])

    def test_all_corners_leave_the_other_as_it_is(self):
        self.check(helper.RING, 0, 1, [0, 1, 2], [0], [1, 1, 0])
        self.check(helper.RING, 1, 0, [0, 2], [0, 1, 2], [0, 2, 0, 2])
        self.check(helper.TORUS, 0, 1, ALL_SEVEN, A, [1, len(A)] + A)
        self.check(helper.TORUS, 1, 0, B, ALL_SEVEN, [1, len(B)] + B)
        self.check(helper.TORUS, 0, 2, ALL_SEVEN, [3], [1, 1, 3])
        self.check(helper.TORUS, 2, 0, [3, 5], ALL_SEVEN, [0, 2, 3, 5])
        self.check(helper.THREE_SPHERE, 0, 3, [0, 1, 2, 3, 4], [1, 2, 4], [1, 3, 1, 2, 4])
        self.check(helper.THREE_SPHERE, 3, 0, [1, 2], [0, 1, 2, 3, 4], [0, 2, 1, 2])

    def test_the_corners_of_a_part_leave_what_lies_on_it(self):
        # Edge 0 is 01, edge 9 is 78, and the tetrahedron is 3456.
        self.check(helper.PARTS, 0, 1, [0, 1, 2], [0, 9], [1, 1, 0])
        self.check(helper.PARTS, 1, 0, [0, 9], [7, 8], [0, 1, 9])
        self.check(helper.PARTS, 0, 1, [9], [0, 9], [0, 0])
        self.check(helper.PARTS, 0, 3, [3, 4, 5, 6], [0], [0, 1, 0])
        self.check(helper.PARTS, 3, 0, [0], [0, 1, 2, 7, 8, 9], [0, 0])

    def test_the_empty_cut(self):
        self.check(helper.RING, 0, 1, [], [0], [0, 0])
        self.check(helper.RING, 1, 0, [0], [], [0, 0])
        self.check(helper.RING, 0, 1, [0, 1, 2], [], [0, 0])
        self.check(helper.TORUS, 0, 2, [], [3], [0, 0])


class OtherDimensions(Answered):
    def test_together_three(self):
        # Edges 01 02 03 12 13 23, triangles 012 013 023 123.
        self.check(helper.TETRAHEDRON, 1, 2, [0, 1, 2], [0, 3], [0, 1, 0])
        self.check(helper.TETRAHEDRON, 1, 2, [0, 1, 2], [0, 1], [0, 0])
        self.check(helper.TETRAHEDRON, 1, 2, [2, 4, 5], [0, 3], [0, 0])
        self.check(helper.TETRAHEDRON, 2, 1, [0, 3], [2, 4, 5], [0, 1, 0])
        self.check(helper.TETRAHEDRON, 2, 1, [0, 3], [0, 1, 2], [0, 0])
        self.check(helper.TETRAHEDRON, 2, 1, [1, 3], [2, 4, 5], [0, 0])

    def test_the_row_is_by_the_numbers_of_both_dimensions_together(self):
        # The edges at corner 0 and, of dimension 2, what's round the edge 12: the triangles 012 123 124.
        edges = ask_about(helper.THREE_SPHERE, cut(0, [0]))[0][2:]
        triangles = ask_about(helper.THREE_SPHERE, cut(1, [4]))[0][2:]
        self.assertEqual((edges, triangles), ([0, 1, 2, 3], [0, 6, 7]))
        # Tetrahedra 0123 0124 0134 0234 1234: the first and the second begin with 01 and end with 123, 124.
        self.check(helper.THREE_SPHERE, 1, 2, edges, triangles, [0, 2, 0, 1])
        # None begins with 012, 123 or 124 and ends with an edge at 0.
        self.check(helper.THREE_SPHERE, 2, 1, triangles, edges, [0, 0])

    def test_together_two_where_there_are_no_triangles(self):
        self.check(helper.RING, 1, 1, [0], [1], [0, 0])
        self.check(helper.RING, 1, 2, [0], [], [0, 0])

    def test_together_three_where_there_are_no_tetrahedra(self):
        self.check(helper.TORUS, 1, 2, A, [0], [0, 0])
        self.check(helper.TORUS, 2, 1, [0], A, [0, 0])

    def test_empty_rows(self):
        for p in range(4):
            for q in range(4 - p):
                self.check(helper.THREE_SPHERE, p, q, [], [], [0, 0])

    def test_the_empty_shape(self):
        calls = [times(p, q, [], []) for p in range(4) for q in range(4 - p)]
        self.assertEqual(ask(*calls), [[0, 0]] * 10)
        self.assertEqual(ask_about([], *calls), [[0, 0]] * 10)
        refused = [times(2, 2, [], []), times(0, 4, [], []), times(0, 0, [0], []), times(0, 0, [], [0])]
        self.assertEqual(ask(*refused), [[-5], [-1], [-1], [-1]])
        self.assertEqual(ask_about([], *refused), [[-5], [-1], [-1], [-1]])

    def test_a_second_shape(self):
        self.assertEqual(
            ask(shape(helper.TRIANGLE), times(1, 1, [0, 1], [1, 2]), shape(helper.RING), times(1, 1, [0, 1], [1, 2])),
            [[7], [0, 1, 0], [6], [0, 0]],
        )


class Refused(unittest.TestCase):
    def check(self, simplices, p, q, row, other, refusal):
        """The two the other way round are refused the same."""
        check_refused(self, simplices, times(p, q, row, other), refusal)
        check_refused(self, simplices, times(q, p, other, row), refusal)

    def test_a_dimension_above_three(self):
        for high in (4, 5, helper.TOP):
            for low in range(4):
                self.check(helper.TETRAHEDRON, high, low, [], [], -1)
            self.check(helper.TETRAHEDRON, high, high, [], [], -1)
            self.check(helper.TETRAHEDRON, high, 0, [0], [], -1)

    def test_a_row_does_not_rise(self):
        for wrong in ([1, 0], [0, 2, 1], [2, 2], [0, 0], [0, 0, 1]):
            self.check(helper.RING, 1, 1, wrong, [], -1)
            self.check(helper.RING, 1, 0, wrong, [0, 1, 2], -1)
            self.check(helper.RING, 0, 1, wrong, [0], -1)
            self.check(helper.RING, 1, 1, wrong, wrong, -1)

    def test_a_number_is_not_there(self):
        self.check(helper.TETRAHEDRON, 0, 1, [4], [], -1)
        self.check(helper.TETRAHEDRON, 1, 1, [6], [], -1)
        self.check(helper.TETRAHEDRON, 2, 1, [0, 4], [], -1)
        self.check(helper.TETRAHEDRON, 3, 0, [1], [], -1)
        self.check(helper.RING, 2, 1, [0], [], -1)
        self.check(helper.RING, 1, 1, [0, helper.TOP], [0], -1)
        self.check(helper.RING, 1, 1, list(range(50)), list(range(50)), -1)

    def test_a_row_is_held_against_its_own_dimension(self):
        # There are four corners and six edges.
        edges = [2, 4, 5]
        self.assertEqual(
            ask_about(helper.TETRAHEDRON, times(0, 1, [0, 1, 2, 3], edges), times(1, 0, edges, [0, 1, 2, 3])),
            [[0, 3, 2, 4, 5]] * 2,
        )
        self.check(helper.TETRAHEDRON, 0, 1, edges, [0, 1, 2], -1)
        self.check(helper.TETRAHEDRON, 0, 1, edges, edges, -1)

    def test_one_is_no_cut(self):
        self.check(helper.TRIANGLE, 1, 1, [0], [], -6)
        self.check(helper.TRIANGLE, 1, 1, [0], [0, 1], -6)
        self.check(helper.TRIANGLE, 1, 1, [0], [0], -6)
        self.check(helper.TRIANGLE, 0, 1, [0], [0, 1], -6)
        self.check(helper.TRIANGLE, 0, 1, [0, 1, 2], [0], -6)
        self.check(helper.TRIANGLE, 0, 0, [0, 1], [0, 1, 2], -6)
        self.check(helper.TETRAHEDRON, 2, 1, [0], [], -6)

    def test_together_above_three(self):
        for p, q in ((1, 3), (2, 2), (2, 3), (3, 3)):
            self.check(helper.TETRAHEDRON, p, q, [], [], -5)
            self.check(helper.RING, p, q, [], [], -5)
        self.check(helper.THREE_SPHERE, 3, 1, [0], [0, 1, 2, 3], -5)
        self.check(helper.HOLLOW_TETRAHEDRON, 2, 2, [0], [0], -5)

    def test_wrongly_told_comes_ahead_of_no_cut(self):
        for wrong in ([1, 0], [2, 2], [3], [helper.TOP]):
            self.check(helper.TRIANGLE, 1, 1, [0], wrong, -1)
            self.check(helper.TRIANGLE, 0, 1, [0], wrong, -1)
        self.check(helper.TRIANGLE, 1, 4, [0], [], -1)
        self.check(helper.TRIANGLE, 1, 1, [0, 3], [], -1)

    def test_wrongly_told_comes_ahead_of_above_three(self):
        self.check(helper.TETRAHEDRON, 2, 2, [4], [], -1)
        self.check(helper.TETRAHEDRON, 3, 1, [0, 0], [], -1)
        self.check(helper.TETRAHEDRON, 3, 4, [], [], -1)

    def test_no_cut_comes_ahead_of_above_three(self):
        self.check(helper.TETRAHEDRON, 2, 2, [0], [], -6)
        self.check(helper.TETRAHEDRON, 3, 1, [0], [0], -6)
        self.check(helper.TETRAHEDRON, 3, 2, [], [1], -6)

    def test_wrongly_told_comes_ahead_of_both(self):
        self.check(helper.TETRAHEDRON, 2, 2, [0], [4], -1)
        self.check(helper.TETRAHEDRON, 3, 1, [1], [0], -1)


if __name__ == "__main__":
    unittest.main()
