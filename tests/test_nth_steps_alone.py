"""Promise 2 of nth, steps and alone."""

import unittest

from support import (
    ALONE, DOUBLE, LARGEST, NO_MORE, NOT_AS_TOLD, SHOW, SIX, STEPS, TOO_MANY, TURN,
    all_kinds, ask, brings, brought_by, doubled, kinds_up_to, nth, slow_kinds, take, turned, types,
)


def in_order(kind, j):
    """All types of j steps that nth answers, from i of 0 on, until there are no more."""
    count = ask(take(kind), types(j))[1][0]
    told = ask(take(kind), *[nth(j, i) for i in range(count + 1)])[1:]
    assert told.pop() == NO_MORE, kind
    assert all(answer[0] == j and len(answer) == j + 1 for answer in told), told
    return [tuple(answer[1:]) for answer in told]


def steps_of(kind):
    return ask(take(kind), STEPS)[1]


def alone(kind):
    return ask(take(kind), ALONE)[1]


class Nth(unittest.TestCase):
    def test_one_step(self):
        told = ask(take([0]), nth(1, 0), nth(1, 1), *[nth(j, 0) for j in range(2, 7)])
        self.assertEqual(told, [[1], [1, 0]] + [NO_MORE] * 6)

    def test_two_steps_fill_the_line(self):
        told = ask(take([0, 1]), nth(1, 0), nth(1, 1), nth(2, 0), nth(2, 1), *[nth(j, 0) for j in range(3, 7)])
        self.assertEqual(told[1:], [[1, 0], NO_MORE, [2, 0, 1]] + [NO_MORE] * 5)

    def test_three_and_all_that_it_brings(self):
        self.assertEqual(ask(take([0, 1, 2]), *[nth(j, 0) for j in SIX])[1:], [
            [1, 0], [2, 0, 1], [3, 0, 1, 2], [4, 0, 2, 1, 3], [5, 0, 2, 3, 1, 4], [6, 0, 3, 2, 4, 1, 5],
        ])
        self.assertEqual(ask(take([0, 2, 1]), *[nth(j, 0) for j in SIX])[1:], [
            [1, 0], [2, 0, 1], [3, 0, 2, 1], [4, 0, 3, 1, 2], [5, 0, 4, 2, 1, 3], [6, 0, 5, 2, 3, 1, 4],
        ])
        for kind in ([0, 1, 2], [0, 2, 1]):
            self.assertEqual(ask(take(kind), *[nth(j, 1) for j in SIX])[1:], [NO_MORE] * 6)

    def test_four_that_bring_three_steps_and_that_do_not(self):
        for kind, threes in [
            ([0, 1, 2, 3], [[3, 0, 1, 2], NO_MORE, NO_MORE]),
            ([0, 3, 2, 1], [[3, 0, 2, 1], NO_MORE, NO_MORE]),
            ([0, 1, 3, 2], [[3, 0, 1, 2], [3, 0, 2, 1], NO_MORE]),
            ([0, 2, 3, 1], [[3, 0, 1, 2], [3, 0, 2, 1], NO_MORE]),
            ([0, 2, 1, 3], [NO_MORE, NO_MORE, NO_MORE]),
            ([0, 3, 1, 2], [NO_MORE, NO_MORE, NO_MORE]),
        ]:
            self.assertEqual(ask(take(kind), nth(3, 0), nth(3, 1), nth(3, 2))[1:], threes, kind)

    def test_rounds_that_fill_a_piece(self):
        self.assertEqual(in_order((0, 2, 1, 3), 4), [(0, 2, 1, 3)])
        for kind in all_kinds(3):
            self.assertEqual(in_order(doubled(kind), 3), [kind])
            self.assertIn(doubled(kind), in_order(doubled(kind), 6))

    def test_its_own_mirror(self):
        for kind in ((0, 1, 3, 2), (0, 2, 3, 1)):
            for j in SIX:
                told = in_order(kind, j)
                self.assertEqual(sorted(turned(other) for other in told), told)

    def test_the_numbers_straight_along_come_first(self):
        for k in range(1, 8):
            for j in range(1, min(k, 6) + 1):
                self.assertEqual(ask(take(range(k)), nth(j, 0))[1], [j] + list(range(j)))

    def test_steps_that_are_not_one_to_six(self):
        for kind in ([0], [0, 1, 2], range(7)):
            for j in (0, 7, 8, LARGEST - 1, LARGEST):
                for i in (0, 1, LARGEST):
                    self.assertEqual(ask(take(kind), nth(j, i))[1], NOT_AS_TOLD, (j, i))

    def test_no_more(self):
        for kind in ([0], [0, 1, 2], [0, 2, 1, 3], [0, 2, 4, 1, 3], range(6), range(7)):
            for j in SIX:
                count = ask(take(kind), types(j))[1][0]
                for i in (count, count + 1, LARGEST - 1, LARGEST):
                    self.assertEqual(ask(take(kind), nth(j, i))[1], NO_MORE, (kind, j, i))
                if count > 0:
                    self.assertEqual(ask(take(kind), nth(j, count - 1))[1][0], j)

    def test_goes_by_the_type_that_is_there(self):
        told = ask(
            take([0]), nth(2, 0), DOUBLE, nth(2, 0), take([0, 1, 2]), nth(3, 0), TURN, nth(3, 0), TURN, nth(3, 0),
        )
        self.assertEqual(told[1::2], [NO_MORE, [2, 0, 1], [3, 0, 1, 2], [3, 0, 2, 1], [3, 0, 1, 2]])

    def test_agrees_with_types_and_brings(self):
        for kind in kinds_up_to(5) + all_kinds(6)[::5] + all_kinds(7)[::29]:
            for j in SIX:
                expected = sorted(brought_by(kind, all_kinds(j)))
                self.assertEqual(in_order(kind, j), expected, (kind, j))

    def test_agrees_with_the_slow_line(self):
        for kind in kinds_up_to(6) + all_kinds(7)[::13]:
            for j in SIX:
                self.assertEqual(in_order(kind, j), slow_kinds(kind, j), (kind, j))


class Steps(unittest.TestCase):
    def test_written_out(self):
        for kind, together in [
            ([0], 1),
            ([0, 1], 1 + 2),
            ([0, 1, 2], 63),
            ([0, 2, 1], 63),
            ([0, 2, 1, 3], 1 + 2 + 8),
            ([0, 3, 1, 2], 1 + 2 + 8),
            ([0, 1, 2, 3], 63),
            ([0, 1, 3, 2], 63),
            ([0, 2, 3, 1, 4], 1 + 2 + 8 + 16 + 32),
            ([0, 3, 2, 4, 1, 5], 1 + 2 + 8 + 32),
            ([0, 3, 4, 2, 5, 1, 6], 1 + 2 + 8 + 32),
            ([0, 1, 2, 3, 4, 5, 6], 63),
        ]:
            self.assertEqual(steps_of(kind), [together], kind)

    def test_doubled_and_doubled(self):
        told = ask(take([0]), STEPS, DOUBLE, STEPS, DOUBLE, STEPS, DOUBLE, STEPS)
        self.assertEqual(told[1::2], [[1], [3], [11], [11]])
        for kind in all_kinds(3):
            # It brings the three that it was made of, and so each number of steps.
            self.assertEqual(ask(take(kind), DOUBLE, STEPS)[2], [63])

    def test_agrees_with_types(self):
        for kind in kinds_up_to(7):
            told = ask(take(kind), STEPS, *[types(j) for j in SIX])[1:]
            expected = sum(2 ** at for at, answer in enumerate(told[1:]) if answer[0] > 0)
            self.assertEqual(told[0], [expected], kind)

    def test_agrees_with_the_slow_line(self):
        for kind in kinds_up_to(6) + all_kinds(7)[::13]:
            expected = sum(2 ** (j - 1) for j in SIX if slow_kinds(kind, j))
            self.assertEqual(steps_of(kind), [expected], kind)

    def test_turned_about_it_stays(self):
        for kind in kinds_up_to(7):
            before, _, after = ask(take(kind), STEPS, TURN, STEPS)[1:]
            self.assertEqual(before, after)


class Alone(unittest.TestCase):
    def test_written_out(self):
        for kind, told in [
            ([0], [1, 1]),
            ([0, 1], [1, 1]),
            ([0, 1, 2], [1, 1]),
            ([0, 2, 1], [1, 1]),
            ([0, 2, 1, 3], [1, 1]),
            ([0, 3, 1, 2], [1, 1]),
            ([0, 1, 2, 3], [0, 2]),
            ([0, 3, 2, 1], [0, 2]),
            ([0, 1, 3, 2], [0, 3]),
            ([0, 2, 3, 1], [0, 5]),
            ([0, 2, 3, 1, 4], [1, 1]),
            ([0, 4, 2, 1, 3], [1, 1]),
        ]:
            self.assertEqual(alone(kind), told, kind)

    def test_six_steps_are_answered(self):
        self.assertEqual(alone([0, 3, 2, 4, 1, 5]), [1, 1])
        self.assertEqual(alone([0, 5, 2, 3, 1, 4]), [1, 1])
        for kind in all_kinds(6):
            count = len(slow_kinds(kind, 6))
            self.assertEqual(alone(kind), [1 if count == 1 else 0, count], kind)

    def test_seven_steps_are_too_many(self):
        for kind in all_kinds(7):
            told = ask(take(kind), ALONE, SHOW)[1:]
            self.assertEqual(told, [TOO_MANY, [7] + list(kind)])

    def test_agrees_with_types_and_brings(self):
        for kind in kinds_up_to(6):
            others = [other for other in all_kinds(len(kind)) if other != kind]
            told = ask(take(kind), ALONE, types(len(kind)), *[brings(other) for other in others])[1:]
            brought = sum(answer[0] for answer in told[2:])
            self.assertEqual(told[0], [1 if brought == 0 else 0, brought + 1], kind)
            self.assertEqual(told[0][1:], told[1], kind)

    def test_goes_by_the_type_that_is_there(self):
        told = ask(take([0, 2, 3, 1]), ALONE, take([0, 1]), ALONE, DOUBLE, ALONE, TURN, ALONE, take([]), ALONE)
        self.assertEqual(told[1::2], [[0, 5], [1, 1], [1, 1], [1, 1], [1, 1]])


if __name__ == "__main__":
    unittest.main()
