"""The one list that is handed in, and the one that is given back."""

import unittest

from roundtypes.types import answers
from support import DOUBLE, LARGEST, LINE, TURN, all_kinds, ask, brings, take, types

MIXED = (
    LINE + take([]) + types(3) + take([0, 1, 2]) + LINE + brings([0, 2, 1, 3]) + TURN + DOUBLE + DOUBLE
    + brings([0, 5]) + types(LARGEST) + types(6) + take(range(10)) + LINE
)


class Interface(unittest.TestCase):
    def test_each_answer_stands_behind_how_many_numbers_it_has(self):
        self.assertEqual(answers(MIXED), [
            1, -11, 1, -22, 1, -11, 1, 3, 4, 3, 1, 2, 0, 1, 1, 4, 3, 0, 2, 1, 7, 6, 0, 4, 2, 1, 5, 3, 1, -28,
            1, -22, 1, -22, 1, 2, 1, -22, 7, 6, 4, 5, 1, 0, 2, 3,
        ])

    def test_what_is_handed_in_stays(self):
        calls = list(MIXED)
        answers(calls)
        self.assertEqual(calls, MIXED)

    def test_asked_twice_is_answered_the_same(self):
        self.assertEqual(answers(MIXED), answers(MIXED))

    def test_nothing_is_kept_for_the_next_time(self):
        self.assertEqual(answers(take([0, 1, 2])), [1, 3])
        self.assertEqual(answers(types(3)), [1, -11])

    def test_what_is_given_back_is_free_to_change(self):
        told = answers(MIXED)
        before = list(told)
        told.clear()
        self.assertEqual(answers(MIXED), before)

    def test_whole_numbers_are_ints(self):
        told = answers(take([0]) + brings([0]) + brings([0, 1]) + types(1))
        self.assertEqual([number.__class__ for number in told], [int] * len(told))

    def test_four_hundred_calls(self):
        calls = []
        for kind in all_kinds(7)[:200]:
            calls.extend([take(kind), types(6)])
        told = ask(*calls)
        self.assertEqual(len(told), 400)
        self.assertEqual(told[::2], [[7]] * 200)
        self.assertEqual(ask(calls[398], calls[399])[1], told[399])


if __name__ == "__main__":
    unittest.main()
