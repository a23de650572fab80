"""The one list that is handed in, and the one that is given back."""

import unittest
from time import process_time

from roundtypes.types import answers
from support import (
    ALONE, DOUBLE, LARGEST, LINE, SHOW, STEPS, TURN,
    all_kinds, ask, brings, by, first, kinds_up_to, nth, slow_kinds, take, types,
)

MIXED = (
    LINE + take([]) + types(3) + take([0, 1, 2]) + LINE + brings([0, 2, 1, 3]) + TURN + DOUBLE + DOUBLE
    + brings([0, 5]) + types(LARGEST) + types(6) + take(range(10)) + LINE
)
LATER = (
    SHOW + nth(1, 0) + take([0, 1, 3, 2]) + nth(3, 1) + nth(3, 2) + nth(7, 0) + STEPS + ALONE + by(4) + by(3) + by(6)
    + first(4) + first(0) + SHOW + TURN + take(range(7)) + ALONE + by(1) + nth(6, LARGEST) + SHOW
)
ALL_THAT_ASK = (
    [LINE, STEPS, ALONE, SHOW] + [brings(kind) for kind in kinds_up_to(4)] + [types(j) for j in range(8)]
    + [nth(j, i) for j in range(8) for i in (0, 1, LARGEST)] + [by(k) for k in range(7)] + [first(k) for k in range(7)]
)
MANY_SECONDS = 10


class Unchanging(list):
    """A list that can only be read."""

    def refuse(self, *args, **kwargs):
        raise AssertionError("what is handed in is changed")

    __setitem__ = __delitem__ = __iadd__ = __imul__ = refuse
    append = clear = extend = insert = pop = remove = reverse = sort = refuse


class Interface(unittest.TestCase):
    def test_each_answer_stands_behind_how_many_numbers_it_has(self):
        self.assertEqual(answers(MIXED), [
            1, -11, 1, -22, 1, -11, 1, 3, 4, 3, 1, 2, 0, 1, 1, 4, 3, 0, 2, 1, 7, 6, 0, 4, 2, 1, 5, 3, 1, -28,
            1, -22, 1, -22, 1, 2, 1, -22, 7, 6, 4, 5, 1, 0, 2, 3,
        ])

    def test_also_of_the_later_calls(self):
        self.assertEqual(answers(LATER), [
            1, -11, 1, -11, 1, 4, 4, 3, 0, 2, 1, 1, -33, 1, -22, 1, 63, 2, 0, 3, 5, 1, 0, 1, 3, 2, 1, 0, 1, -22,
            2, 2, 6, 1, -22, 5, 4, 0, 1, 3, 2, 5, 4, 0, 1, 3, 2, 1, 7, 1, -28, 1, -28, 1, -33,
            8, 7, 0, 1, 2, 3, 4, 5, 6,
        ])

    def test_what_is_handed_in_stays(self):
        for row in (MIXED, LATER):
            calls = list(row)
            answers(calls)
            self.assertEqual(calls, row)

    def test_what_is_handed_in_is_not_changed_for_a_while_either(self):
        for row in (MIXED, LATER):
            self.assertEqual(answers(Unchanging(row)), answers(row))

    def test_asked_twice_is_answered_the_same(self):
        for row in (MIXED, LATER):
            self.assertEqual(answers(row), answers(row))

    def test_nothing_is_kept_for_the_next_time(self):
        self.assertEqual(answers(take([0, 1, 2])), [1, 3])
        for call in (types(3), SHOW, first(3)):
            self.assertEqual(answers(call), [1, -11])

    def test_what_is_given_back_is_free_to_change(self):
        told = answers(MIXED)
        before = list(told)
        told.clear()
        self.assertEqual(answers(MIXED), before)

    def test_whole_numbers_are_ints(self):
        told = answers(take([0]) + brings([0]) + brings([0, 1]) + types(1) + LATER)
        self.assertEqual([number.__class__ for number in told], [int] * len(told))

    def test_calls_that_ask_leave_the_object(self):
        for kind in kinds_up_to(4) + [tuple(range(5)), tuple(range(6)), tuple(range(7))]:
            told = ask(take(kind), *[one for call in ALL_THAT_ASK for one in (call, SHOW)])[1:]
            self.assertEqual(told[1::2], [[len(kind)] + list(kind)] * len(ALL_THAT_ASK))
            # In whatever order they come, each answers as if it were the only one.
            self.assertEqual(told[::2], [ask(take(kind), call)[1] for call in ALL_THAT_ASK])

    def test_turn_and_double_are_seen_by_all_calls_behind_them(self):
        for kind in kinds_up_to(3):
            for change in (TURN, DOUBLE):
                # What was asked before must not be answered again.
                told = ask(take(kind), *ALL_THAT_ASK, change, *ALL_THAT_ASK)[1 + len(ALL_THAT_ASK):]
                self.assertEqual(told[1:], ask(take(told[0][1:]), *ALL_THAT_ASK)[1:])


class FourHundredCalls(unittest.TestCase):
    def timed(self, calls):
        self.assertEqual(len(calls), 400)
        began = process_time()
        told = ask(*calls)
        self.assertLess(process_time() - began, MANY_SECONDS)
        return told

    def test_types_of_seven_steps(self):
        for begin in range(0, 720, 200):
            kinds = (all_kinds(7) * 2)[begin:begin + 200]
            told = self.timed([call for kind in kinds for call in (take(kind), STEPS)])
            self.assertEqual(told[::2], [[7]] * 200)
            self.assertEqual(told[399], ask(take(kinds[199]), STEPS)[1])

    def test_all_that_seven_steps_bring(self):
        kind = (0, 3, 6, 2, 1, 5, 4)
        calls = [take(kind)] + [nth(6, i) for i in range(399)]
        brought = slow_kinds(kind, 6)
        told = self.timed(calls)[1:]
        self.assertEqual(told, [[6] + list(row) for row in brought] + [[-33]] * (399 - len(brought)))

    def test_by_and_first(self):
        calls = []
        for kind in (kinds_up_to(5) * 4)[:100]:
            calls.extend([take(kind), by(5), first(5), by(4)])
        told = self.timed(calls)
        self.assertEqual(told[2::4], [[2, 24]] * 100)
        self.assertEqual(told[1], [24, 0, 1, 2, 3, 4])

    def test_each_of_five_steps_over_and_over(self):
        told = self.timed([take(range(5))] + [by(5), first(5), TURN] * 133)
        self.assertEqual(told[1:7], told[7:13])

    def test_the_longest_list(self):
        calls = [take(range(10)) for _ in range(400)]
        self.assertEqual(sum(len(call) for call in calls), 4800)
        self.assertEqual(self.timed(calls), [[-22]] * 400)


if __name__ == "__main__":
    unittest.main()
