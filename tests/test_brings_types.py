"""Promise 2 of brings and types, by examples worked out by hand and against the slow line."""

import unittest

from support import (
    DOUBLE, LARGEST, LINE, NOT_AS_TOLD, SIX,
    all_kinds, ask, brings, brought_by, doubled, kinds_up_to, slow_kinds, take, turned, types,
)


def counts(kind):
    """What types answers of 1 to 6 steps."""
    return [answer[0] for answer in ask(take(kind), *[types(j) for j in SIX])[1:]]


class WrongInputs(unittest.TestCase):
    NO_KINDS = [
        [], [1], [1, 0], [0, 0], [0, 2], [0, 1, 1], [0, LARGEST], [1, 2, 0], [0, 1, 2, 3, 4, 6],
        [0, 1, 2, 3, 4, 4], [LARGEST] * 10,
    ]

    def test_brings_refuses_what_is_no_type(self):
        for row in self.NO_KINDS:
            self.assertEqual(ask(take([0, 1, 2]), brings(row))[1], NOT_AS_TOLD, row)

    def test_brings_refuses_more_than_six_steps(self):
        seven = [0, 1, 2, 3, 4, 5, 6]
        self.assertEqual(ask(take(seven), brings(seven)), [[7], NOT_AS_TOLD])
        for k in (7, 8, 9, 10):
            self.assertEqual(ask(take([0]), brings(range(k))), [[1], NOT_AS_TOLD])

    def test_types_refuses_steps_that_are_not_one_to_six(self):
        for kind in ([0], [0, 1, 2], [0, 1, 2, 3, 4, 5, 6]):
            for j in (0, 7, 8, LARGEST - 1, LARGEST):
                self.assertEqual(ask(take(kind), types(j))[1], NOT_AS_TOLD, j)

    def test_refused_and_answered_ones_leave_the_type(self):
        told = ask(
            take([0, 1, 2]), brings([0, 2]), LINE, types(7), LINE, types(0), LINE,
            brings([0, 2, 1]), LINE, types(6), LINE, brings(range(7)), LINE,
        )
        self.assertEqual(told[2::2], [[3, 1, 2, 0]] * 6)

    def test_is_asked_of_the_type_that_is_taken_last(self):
        told = ask(
            take([0, 1, 2]), types(4), brings([0, 1, 2]), take([0, 1]), types(4), brings([0, 1, 2]),
            DOUBLE, types(4), take([0, 3]), types(4), take([0, 1, 2]), types(4), brings([0, 1, 2]),
        )
        self.assertEqual(told, [
            [3], [1], [1], [2], [0], [0], [4, 0, 2, 1, 3], [1], NOT_AS_TOLD, [1], [3], [1], [1],
        ])


class Edges(unittest.TestCase):
    def test_one_step_brings_itself_alone(self):
        self.assertEqual(counts([0]), [1, 0, 0, 0, 0, 0])
        self.assertEqual(brought_by((0,), kinds_up_to(6)), {(0,)})

    def test_two_steps_fill_the_line(self):
        self.assertEqual(counts([0, 1]), [1, 1, 0, 0, 0, 0])
        self.assertEqual(brought_by((0, 1), kinds_up_to(6)), {(0,), (0, 1)})

    def test_three_and_all_that_it_brings(self):
        # Its line puts x onto x + 1 up to place 1, onto 4 - 2x from there. Of 4 steps there is one round,
        # from 4/9 on. Of 5 there are two, from 4/15 and from 2/9, of 6 two, and both of each lie alike.
        self.assertEqual(brought_by((0, 1, 2), kinds_up_to(6)), {
            (0,), (0, 1), (0, 1, 2), (0, 2, 1, 3), (0, 2, 3, 1, 4), (0, 3, 2, 4, 1, 5),
        })
        self.assertEqual(counts([0, 1, 2]), [1, 1, 1, 1, 1, 1])
        self.assertEqual(brought_by((0, 2, 1), kinds_up_to(6)), {
            (0,), (0, 1), (0, 2, 1), (0, 3, 1, 2), (0, 4, 2, 1, 3), (0, 5, 2, 3, 1, 4),
        })
        self.assertEqual(counts([0, 2, 1]), [1, 1, 1, 1, 1, 1])

    def test_four_that_bring_three_steps_and_that_do_not(self):
        self.assertEqual(brought_by((0, 1, 2, 3), all_kinds(3)), {(0, 1, 2)})
        self.assertEqual(brought_by((0, 3, 2, 1), all_kinds(3)), {(0, 2, 1)})
        self.assertEqual(brought_by((0, 1, 3, 2), all_kinds(3)), {(0, 1, 2), (0, 2, 1)})
        self.assertEqual(brought_by((0, 2, 3, 1), all_kinds(3)), {(0, 1, 2), (0, 2, 1)})
        self.assertEqual(counts([0, 2, 1, 3]), [1, 1, 0, 1, 0, 0])
        self.assertEqual(counts([0, 3, 1, 2]), [1, 1, 0, 1, 0, 0])

    def test_its_own_mirror_brings_mirrors(self):
        for kind in ((0, 1, 3, 2), (0, 2, 3, 1)):
            brought = brought_by(kind, kinds_up_to(6))
            self.assertEqual({turned(other) for other in brought}, brought)

    def test_rounds_that_fill_a_piece(self):
        # 0 to 1 and 2 to 3 change places; all their places come back in four steps, the middles in two.
        self.assertEqual(brought_by((0, 2, 1, 3), kinds_up_to(6)), {(0,), (0, 1), (0, 2, 1, 3)})
        # Three pieces go round and are turned over; their middles are a round of three.
        for kind in ((0, 1, 2), (0, 2, 1)):
            brought = brought_by(doubled(kind), kinds_up_to(6))
            self.assertIn(kind, brought)
            self.assertIn(doubled(kind), brought)
            self.assertEqual(set(slow_kinds(doubled(kind), 6)), {row for row in brought if len(row) == 6})

    def test_one_doubled_and_doubled(self):
        told = ask(take([0]), DOUBLE, DOUBLE, *[types(j) for j in SIX], brings([0, 2, 1, 3]), brings([0, 3, 1, 2]))
        self.assertEqual(told[3:], [[1], [1], [0], [1], [0], [0], [1], [0]])

    def test_the_numbers_straight_along(self):
        for k in range(2, 8):
            told = ask(take(range(k)), *[brings(range(j)) for j in SIX])[1:]
            self.assertEqual(told, [[1 if j <= k else 0] for j in SIX])

    def test_seven_steps(self):
        # These two alone of seven steps bring neither three steps nor five.
        fewest = [(0, 3, 4, 2, 5, 1, 6), (0, 6, 3, 2, 4, 1, 5)]
        for kind in fewest:
            self.assertEqual(counts(kind), [1, 1, 0, 1, 0, 1])
        for kind in all_kinds(7):
            told = ask(take(kind), types(3), types(5))[1:]
            self.assertEqual(told == [[0], [0]], kind in fewest)


class AgainstTheSlowLine(unittest.TestCase):
    def check(self, kind):
        expected = [slow_kinds(kind, j) for j in SIX]
        self.assertEqual(brought_by(kind, kinds_up_to(6)), set().union(*expected), kind)
        self.assertEqual(counts(kind), [len(kinds) for kinds in expected], kind)

    def test_all_types_of_up_to_six_steps(self):
        for kind in kinds_up_to(6):
            self.check(kind)

    def test_types_of_seven_steps(self):
        for kind in all_kinds(7)[::13]:
            self.check(kind)


if __name__ == "__main__":
    unittest.main()
