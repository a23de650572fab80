"""Promise 3: by and first."""

import unittest

from support import (
    ALONE, DOUBLE, FIVE, LARGEST, NOT_AS_TOLD, SHOW, TOO_MANY, TURN,
    all_kinds, ask, brings, by, first, kinds_up_to, slow_kinds, take, turned,
)

NOT_ONE_TO_FIVE = (0, 6, 7, LARGEST - 1, LARGEST)


def by_all(kind):
    """What by answers of 1 to 5 steps."""
    return ask(take(kind), *[by(k) for k in FIVE])[1:]


def as_answered(rows):
    return [len(rows)] + (list(rows[0]) if rows else [])


class By(unittest.TestCase):
    def test_one_step_is_brought_by_all(self):
        self.assertEqual(by_all([0]), [
            [1, 0], [1, 0, 1], [2, 0, 1, 2], [6, 0, 1, 2, 3], [24, 0, 1, 2, 3, 4],
        ])

    def test_two_steps_are_brought_by_all_but_one_step(self):
        self.assertEqual(by_all([0, 1]), [[0], [1, 0, 1], [2, 0, 1, 2], [6, 0, 1, 2, 3], [24, 0, 1, 2, 3, 4]])

    def test_three(self):
        self.assertEqual(by_all([0, 1, 2])[:4], [[0], [0], [1, 0, 1, 2], [3, 0, 1, 2, 3]])
        self.assertEqual(by_all([0, 2, 1])[:4], [[0], [0], [1, 0, 2, 1], [3, 0, 1, 3, 2]])

    def test_four(self):
        for kind, told in [
            ([0, 1, 2, 3], [[0], [0], [0], [2, 0, 1, 2, 3]]),
            ([0, 3, 2, 1], [[0], [0], [0], [2, 0, 2, 3, 1]]),
            ([0, 1, 3, 2], [[0], [0], [0], [1, 0, 1, 3, 2]]),
            ([0, 2, 3, 1], [[0], [0], [0], [1, 0, 2, 3, 1]]),
            ([0, 2, 1, 3], [[0], [0], [1, 0, 1, 2], [4, 0, 1, 2, 3]]),
            ([0, 3, 1, 2], [[0], [0], [1, 0, 2, 1], [4, 0, 1, 3, 2]]),
        ]:
            self.assertEqual(by_all(kind)[:4], told, kind)

    def test_none_is_nought_alone(self):
        for kind in kinds_up_to(5)[1:]:
            self.assertEqual(ask(take(kind), by(1))[1], [0], kind)
        for kind in kinds_up_to(5)[2:]:
            self.assertEqual(ask(take(kind), by(2))[1], [0], kind)
        # Places above the middle of 0 2 3 1 go up as often as one likes, then back: it brings five straight along,
        # and no other of four steps does.
        self.assertEqual(by_all(range(5))[:4], [[0], [0], [0], [1, 0, 2, 3, 1]])

    def test_steps_that_are_not_one_to_five(self):
        for kind in ([0], [0, 1, 2], range(5)):
            for k in NOT_ONE_TO_FIVE:
                self.assertEqual(ask(take(kind), by(k), SHOW)[1:], [NOT_AS_TOLD, [len(kind)] + list(kind)], k)

    def test_more_than_five_steps(self):
        for kind in (range(6), [0, 3, 2, 4, 1, 5], range(7), [0, 3, 4, 2, 5, 1, 6]):
            self.assertEqual(by_all(kind), [TOO_MANY] * 5)
            self.assertEqual(ask(take(kind), by(5), SHOW)[2], [len(kind)] + list(kind))

    def test_wrong_steps_are_told_ahead_of_too_many(self):
        for kind in (range(6), range(7)):
            self.assertEqual(ask(take(kind), *[by(k) for k in NOT_ONE_TO_FIVE])[1:], [NOT_AS_TOLD] * 5)

    def test_doubled_and_doubled(self):
        told = ask(take([0]), by(4), DOUBLE, by(4), DOUBLE, by(4), take([0, 1, 2]), by(3), DOUBLE, by(3))
        self.assertEqual(told[1::2], [[6, 0, 1, 2, 3], [6, 0, 1, 2, 3], [4, 0, 1, 2, 3], [1, 0, 1, 2], TOO_MANY])

    def test_goes_by_the_type_that_is_there(self):
        told = ask(take([0, 1, 2]), by(4), TURN, by(4), take([0, 5]), by(4), TURN, by(4))
        self.assertEqual(told[1::2], [[3, 0, 1, 2, 3], [3, 0, 1, 3, 2], [3, 0, 1, 3, 2], [3, 0, 1, 2, 3]])

    def test_agrees_with_brings(self):
        held = kinds_up_to(5)
        bringing = {kind: {k: [] for k in FIVE} for kind in held}
        for other in held:
            for kind, answer in zip(held, ask(take(other), *[brings(kind) for kind in held])[1:]):
                if answer == [1]:
                    bringing[kind][len(other)].append(other)
        for kind in held:
            self.assertEqual(by_all(kind), [as_answered(bringing[kind][k]) for k in FIVE], kind)

    def test_agrees_with_the_slow_line(self):
        for kind in kinds_up_to(5):
            expected = [[other for other in all_kinds(k) if kind in slow_kinds(other, len(kind))] for k in FIVE]
            self.assertEqual(by_all(kind), [as_answered(rows) for rows in expected], kind)

    def test_turned_about_as_many_bring_it(self):
        for kind in kinds_up_to(5):
            counted = [[told[0] for told in by_all(one)] for one in (kind, turned(kind))]
            self.assertEqual(counted[0], counted[1], kind)


class First(unittest.TestCase):
    def test_written_out(self):
        told = ask(take([0]), *[first(k) for k in FIVE])[1:]
        self.assertEqual(told, [[1, 1], [1, 1], [2, 2], [2, 6], [2, 24]])

    def test_is_the_same_whatever_is_taken(self):
        for kind in kinds_up_to(4) + all_kinds(7)[::100]:
            told = ask(take(kind), *[first(k) for k in FIVE], SHOW)[1:]
            self.assertEqual(told, [[1, 1], [1, 1], [2, 2], [2, 6], [2, 24], [len(kind)] + list(kind)])

    def test_steps_that_are_not_one_to_five(self):
        for kind in ([0], [0, 1, 2], range(6), range(7)):
            for k in NOT_ONE_TO_FIVE:
                self.assertEqual(ask(take(kind), first(k), SHOW)[1:], [NOT_AS_TOLD, [len(kind)] + list(kind)], k)

    def test_agrees_with_alone(self):
        for k in FIVE:
            kinds = all_kinds(k)
            told = [ask(take(kind), ALONE)[1][0] for kind in kinds]
            self.assertEqual(ask(take([0]), first(k))[1], [sum(told), len(kinds)])

    def test_agrees_with_the_slow_line(self):
        for k in FIVE:
            kinds = all_kinds(k)
            least = [kind for kind in kinds if slow_kinds(kind, k) == [kind]]
            self.assertEqual(ask(take([0]), first(k))[1], [len(least), len(kinds)])


if __name__ == "__main__":
    unittest.main()
