import time
import unittest

from cutproducts.shapes import answers
from tests import helper
from tests.helper import ask, count, crosses, cut, form, listed, longest, same, shape, times

MOST_SECONDS = 5

WRITTEN = [
    0, 0, 2, 2, 1, 0, 3, 2, 0, 1,
    1, 0, 0,
    2, 1, 1, 0,
    3, 1, 1, 1, 1, 2,
    4, 1, 1, 2, 2, 0, 1, 0,
    4, 1, 1, 2, 1, 0, 0,
    0, 0, 1, 0,
    2, 1, 4, 0,
    3, 1, 9, 1, 0,
    5, 2, 1, 1, 2, 2, 0, 1, 2, 1, 2,
    5, 2, 0, 1, 2, 3, 0, 1, 2, 2, 0, 2,
    5, 2, 2, 2, 2, 0, 0,
    6, 0, 0,
    7, 0, 0,
    8, 1, 0, 2, 3, 0, 1, 2, 1, 1,
    8, 1, 1, 2, 2, 0, 1, 1, 1,
]
ANSWERED = [
    1, 7,
    4, 1, 0, 0, 0,
    10, 3, 2, 0, 1, 2, 0, 2, 2, 1, 2,
    3, 0, 1, 0,
    1, 1,
    1, -6,
    1, -1,
    1, 0,
    1, -1,
    3, 0, 1, 0,
    4, 0, 2, 0, 2,
    1, -5,
    2, 0, 0,
    1, 0,
    1, 1,
    1, -6,
]


class Untouchable(list):
    """A list that can't be changed, not for a while either."""

    def refuse(self, *told):
        raise RuntimeError("what is handed in is changed")

    append = clear = extend = insert = pop = remove = reverse = sort = refuse
    __setitem__ = __delitem__ = __iadd__ = __imul__ = refuse


class Interface(unittest.TestCase):
    def test_calls_as_they_are_written(self):
        self.assertEqual(answers(WRITTEN), ANSWERED)

    def test_each_call_alone(self):
        self.assertEqual(answers([0, 0, 0]), [1, 0])
        self.assertEqual(answers([0, 0, 1, 1, 9]), [1, 1])
        self.assertEqual(answers([1, 0, 0]), [4, 0, 0, 0, 0])
        self.assertEqual(answers([2, 1, 0, 0]), [1, 0])
        self.assertEqual(answers([3, 1, 0, 1, 0]), [2, 1, 0])
        self.assertEqual(answers([4, 1, 0, 2, 0, 0]), [1, 1])
        self.assertEqual(answers([5, 2, 0, 0, 2, 0, 0]), [2, 0, 0])
        self.assertEqual(answers([6, 0, 0]), [2, 0, 0])
        self.assertEqual(answers([7, 0, 0]), [1, 0])
        self.assertEqual(answers([8, 1, 0, 2, 0, 0]), [1, 0])

    def test_a_refusal_is_its_number_alone(self):
        self.assertEqual(answers([0, 0, 1, 1, 10]), [1, -1])
        self.assertEqual(answers(shape(helper.SEVENTY_ONE)), [1, -2])
        self.assertEqual(answers([3, 1, 4, 1, 0]), [1, -1])
        self.assertEqual(answers([4, 1, 0, 2, 0, 1, 0]), [1, -1])
        self.assertEqual(answers(shape([[0, 1]]) + same(0, [0], [])), [1, 3, 1, -6])
        self.assertEqual(answers([5, 2, 4, 0, 2, 0, 0]), [1, -1])
        self.assertEqual(answers(shape([[0, 1]]) + times(0, 0, [0], [])), [1, 3, 1, -6])
        self.assertEqual(answers([5, 2, 3, 1, 2, 0, 0]), [1, -5])
        self.assertEqual(answers(shape(helper.SEVEN_RINGS) + form() + longest()), [1, 18, 1, -5, 1, -5])
        self.assertEqual(answers([8, 1, 4, 2, 0, 0]), [1, -1])
        self.assertEqual(answers(shape([[0, 1]]) + crosses(1, [0], [0])), [1, 3, 1, -6])

    def test_whole_numbers_alone_are_answered(self):
        answered = answers(WRITTEN)
        self.assertIs(type(answered), list)
        self.assertEqual({type(number) for number in answered}, {int})

    def test_thirty_calls(self):
        calls = [shape(helper.TORUS)] + [count()] * 12 + [listed(2)] * 9 + [cut(1, [3])] * 8
        parts = ask(*calls)
        self.assertEqual(len(parts), 30)
        self.assertEqual(parts[1:13], [[1, 2, 1, 0]] * 12)
        self.assertEqual([part[0] for part in parts[13:22]], [14] * 9)
        self.assertEqual([part[:2] for part in parts[22:]], [[0, 2]] * 8)

    def test_every_call_after_a_refusal_is_answered(self):
        self.assertEqual(
            ask(shape([[1, 1]]), cut(7, []), same(7, [], []), shape([[1]]), listed(0)),
            [[-1], [-1], [-1], [1], [1, 1, 1]],
        )
        self.assertEqual(
            ask(times(7, 0, [], []), times(3, 3, [], []), crosses(7, [], []), shape([[1]]), times(0, 0, [0], [0])),
            [[-1], [-5], [-1], [1], [1, 1, 0]],
        )

    def test_what_is_handed_in_is_not_changed(self):
        handed = Untouchable(WRITTEN)
        self.assertEqual(answers(handed), ANSWERED)
        self.assertEqual(list(handed), WRITTEN)

    def test_a_second_time_is_as_the_first(self):
        handed = list(WRITTEN)
        first = answers(handed)
        kept = list(first)
        first.append(5)
        self.assertEqual(answers(handed), kept)
        self.assertEqual(handed, WRITTEN)

    def test_nothing_is_kept(self):
        answers(shape(helper.TORUS) + form() + longest())
        self.assertEqual(ask(count(), listed(0), cut(0, [0])), [[0, 0, 0, 0], [0], [-1]])
        self.assertEqual(ask(form(), longest(), times(0, 0, [0], [])), [[0, 0], [0], [-1]])


class LongLists(unittest.TestCase):
    def check(self, calls, parts):
        self.assertEqual(len(calls), 30)
        self.assertLessEqual(sum(len(call) for call in calls), 16000)
        start = time.monotonic()
        self.assertEqual(ask(*calls), parts)
        self.assertLess(time.monotonic() - start, MOST_SECONDS)

    def test_four_of_form_and_longest(self):
        calls = [shape(helper.SEVENTY_WITH_SIX), form(), longest(), form(), longest()]
        self.check(calls + [listed(4)] * 25, [[70], [6, 4], [2], [6, 4], [2]] + [[0]] * 25)

    def test_four_of_form_and_longest_that_are_refused(self):
        calls = [shape(helper.SEVENTY_WITH_SEVEN), form(), longest(), longest(), form()]
        self.check(calls + [listed(4)] * 25, [[70]] + [[-5]] * 4 + [[0]] * 25)

    def test_longest_where_there_are_many_cuts(self):
        # All triangles between six corners have 10 independent cuts of dimension 2; the edges make six rings.
        simplices = [[a, b, c] for a in range(6) for b in range(a) for c in range(b)]
        simplices += [[6, k] for k in range(6)] + [[7, 0], [7, 1], [5, 8, 9]]
        calls = [shape(simplices), count(), longest(), form(), longest()]
        self.check(calls + [listed(3)] * 25, [[57], [1, 6, 10, 0], [1], [6, 6], [1]] + [[0]] * 25)

    def test_twenty_four_of_same_and_times(self):
        a, b = helper.TORUS_CUT, helper.OTHER_TORUS_CUT
        calls = [shape(helper.TORUS)] + [times(1, 1, a, b), same(1, a, b)] * 12
        parts = ask(*calls, *[crosses(2, [3], list(range(14)))] * 5)
        self.assertEqual([part[0] for part in parts], [42] + [1, 0] * 12 + [1] * 5)
        self.check(calls + [crosses(2, [3], list(range(14)))] * 5, parts)

    def test_rows_as_long_as_they_can_be(self):
        all_edges = list(range(45))
        calls = [shape(helper.ALL_EDGES)] + [times(1, 1, all_edges, all_edges)] * 24
        calls += [crosses(1, all_edges, list(range(50)))] * 5
        self.check(calls, [[55]] + [[0, 0]] * 24 + [[-1]] * 5)

    def test_twenty_six_shapes(self):
        told = [[corner] for corner in range(10)] + helper.ALL_EDGES + [[0, 1, k] for k in range(2, 10)]
        wrong = [[0, 1, 2, 3, 4, 5]] * 70
        calls = [shape(told), shape(wrong)] * 13 + [form(), longest(), form(), longest()]
        self.check(calls, [[63], [-1]] * 13 + [[-5]] * 4)


if __name__ == "__main__":
    unittest.main()
