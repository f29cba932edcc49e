import unittest

from cutproducts.shapes import answers
from tests import helper
from tests.helper import ask, count, cut, listed, same, shape

WRITTEN = [
    0, 0, 2, 2, 1, 0, 3, 2, 0, 1,
    1, 0, 0,
    2, 1, 1, 0,
    3, 1, 1, 1, 1, 2,
    4, 1, 1, 2, 2, 0, 1, 0,
    4, 1, 1, 2, 1, 0, 0,
    0, 0, 1, 0,
    2, 1, 4, 0,
    3, 1, 9, 1, 0,
]
ANSWERED = [
    1, 7,
    4, 1, 0, 0, 0,
    10, 3, 2, 0, 1, 2, 0, 2, 2, 1, 2,
    3, 0, 1, 0,
    1, 1,
    1, -6,
    1, -1,
    1, 0,
    1, -1,
]


class Untouchable(list):
    """A list that can't be changed, not for a while either."""

    def refuse(self, *told):
        raise RuntimeError("what is handed in is changed")

    append = clear = extend = insert = pop = remove = reverse = sort = refuse
    __setitem__ = __delitem__ = __iadd__ = __imul__ = refuse


class Interface(unittest.TestCase):
    def test_calls_as_they_are_written(self):
        self.assertEqual(answers(WRITTEN), ANSWERED)

    def test_each_call_alone(self):
        self.assertEqual(answers([0, 0, 0]), [1, 0])
        self.assertEqual(answers([0, 0, 1, 1, 9]), [1, 1])
        self.assertEqual(answers([1, 0, 0]), [4, 0, 0, 0, 0])
        self.assertEqual(answers([2, 1, 0, 0]), [1, 0])
        self.assertEqual(answers([3, 1, 0, 1, 0]), [2, 1, 0])
        self.assertEqual(answers([4, 1, 0, 2, 0, 0]), [1, 1])

    def test_a_refusal_is_its_number_alone(self):
        self.assertEqual(answers([0, 0, 1, 1, 10]), [1, -1])
        self.assertEqual(answers(shape(helper.SEVENTY_ONE)), [1, -2])
        self.assertEqual(answers([3, 1, 4, 1, 0]), [1, -1])
        self.assertEqual(answers([4, 1, 0, 2, 0, 1, 0]), [1, -1])
        self.assertEqual(answers(shape([[0, 1]]) + same(0, [0], [])), [1, 3, 1, -6])

    def test_whole_numbers_alone_are_answered(self):
        answered = answers(WRITTEN)
        self.assertIs(type(answered), list)
        self.assertEqual({type(number) for number in answered}, {int})

    def test_thirty_calls(self):
        calls = [shape(helper.TORUS)] + [count()] * 12 + [listed(2)] * 9 + [cut(1, [3])] * 8
        parts = ask(*calls)
        self.assertEqual(len(parts), 30)
        self.assertEqual(parts[1:13], [[1, 2, 1, 0]] * 12)
        self.assertEqual([part[0] for part in parts[13:22]], [14] * 9)
        self.assertEqual([part[:2] for part in parts[22:]], [[0, 2]] * 8)

    def test_every_call_after_a_refusal_is_answered(self):
        self.assertEqual(
            ask(shape([[1, 1]]), cut(7, []), same(7, [], []), shape([[1]]), listed(0)),
            [[-1], [-1], [-1], [1], [1, 1, 1]],
        )

    def test_what_is_handed_in_is_not_changed(self):
        handed = Untouchable(WRITTEN)
        self.assertEqual(answers(handed), ANSWERED)
        self.assertEqual(list(handed), WRITTEN)

    def test_a_second_time_is_as_the_first(self):
        handed = list(WRITTEN)
        first = answers(handed)
        kept = list(first)
        first.append(5)
        self.assertEqual(answers(handed), kept)
        self.assertEqual(handed, WRITTEN)

    def test_nothing_is_kept(self):
        answers(shape(helper.TORUS))
        self.assertEqual(ask(count(), listed(0), cut(0, [0])), [[0, 0, 0, 0], [0], [-1]])


if __name__ == "__main__":
    unittest.main()
