"""Promise 1: take, line, turn, double and show; and that nothing is answered before a take."""

import unittest

from support import (
    ALONE, DOUBLE, LARGEST, LINE, NOT_AS_TOLD, NOTHING_TAKEN, SHOW, STEPS, TOO_MANY, TURN,
    all_kinds, ask, brings, by, doubled, first, kinds_up_to, nth, take, turned, types,
)

NO_KINDS = [
    [],
    [1],
    [LARGEST],
    [1, 0],
    [0, 0],
    [0, 2],
    [0, 1, 1],
    [0, 1, 3],
    [0, LARGEST],
    [0, 1, 2, LARGEST],
    [1, 2, 0],
    [0, 2, 2, 1],
    [0, 1, 2, 3, 4, 5, 5],
    [0, 1, 2, 3, 4, 5, 7],
    [2, 0, 1, 3, 4, 5, 6],
]
TOO_LONG_TO_TAKE = [list(range(k)) for k in (8, 9, 10)]


class Take(unittest.TestCase):
    def test_answers_how_many_steps(self):
        for kind in kinds_up_to(7):
            self.assertEqual(ask(take(kind)), [[len(kind)]])

    def test_refuses_what_is_no_type(self):
        for row in NO_KINDS:
            self.assertEqual(ask(take(row)), [NOT_AS_TOLD], row)

    def test_refuses_more_than_seven_steps(self):
        for row in TOO_LONG_TO_TAKE:
            self.assertEqual(ask(take(row)), [NOT_AS_TOLD], row)

    def test_taken_again_is_the_type_then(self):
        told = ask(take([0, 1, 2]), LINE, take([0, 2, 3, 1]), LINE, take([0]), LINE)
        self.assertEqual(told, [[3], [3, 1, 2, 0], [4], [4, 2, 0, 3, 1], [1], [1, 0]])

    def test_refused_leaves_the_type(self):
        for row in NO_KINDS + TOO_LONG_TO_TAKE:
            told = ask(take([0, 2, 1]), take(row), LINE, types(3))
            self.assertEqual(told, [[3], NOT_AS_TOLD, [3, 2, 0, 1], [1]], row)


class NothingTaken(unittest.TestCase):
    OTHERS = [
        LINE, TURN, DOUBLE, brings([0]), brings([]), brings(range(7)), types(1), types(0), types(LARGEST),
        nth(1, 0), nth(1, 1), nth(0, 0), nth(7, LARGEST), nth(LARGEST, LARGEST), STEPS, ALONE,
        by(1), by(0), by(6), by(LARGEST), first(1), first(0), first(6), first(LARGEST), SHOW,
    ]

    def test_all_others_are_refused_ahead_of_all_else(self):
        for call in self.OTHERS:
            self.assertEqual(ask(call), [NOTHING_TAKEN], call)
        self.assertEqual(ask(*self.OTHERS), [NOTHING_TAKEN] * len(self.OTHERS))

    def test_also_behind_a_refused_take(self):
        for row in NO_KINDS + TOO_LONG_TO_TAKE:
            for call in self.OTHERS:
                self.assertEqual(ask(take(row), call), [NOT_AS_TOLD, NOTHING_TAKEN], (row, call))

    def test_a_later_take_is_taken(self):
        told = ask(LINE, take([0, 0]), types(1), take([0, 1]), LINE, types(1))
        self.assertEqual(told, [NOTHING_TAKEN, NOT_AS_TOLD, NOTHING_TAKEN, [2], [2, 1, 0], [1]])


class Line(unittest.TestCase):
    def test_written_out(self):
        for kind, line in [
            ([0], [0]),
            ([0, 1], [1, 0]),
            ([0, 1, 2], [1, 2, 0]),
            ([0, 2, 1], [2, 0, 1]),
            ([0, 2, 1, 3], [2, 3, 1, 0]),
            ([0, 1, 3, 2], [1, 3, 0, 2]),
            ([0, 3, 1, 4, 2], [3, 4, 0, 1, 2]),
            ([0, 1, 2, 3, 4, 5, 6], [1, 2, 3, 4, 5, 6, 0]),
            ([0, 6, 1, 5, 2, 4, 3], [6, 5, 4, 0, 3, 2, 1]),
        ]:
            self.assertEqual(ask(take(kind), LINE)[1], [len(kind)] + line)

    def test_goes_along_each_type(self):
        for kind in kinds_up_to(7):
            line = ask(take(kind), LINE)[1][1:]
            places = [0]
            while len(places) < len(kind):
                places.append(line[places[-1]])
            self.assertEqual(tuple(places), kind)
            self.assertEqual(line[places[-1]], 0)

    def test_changes_nothing(self):
        self.assertEqual(ask(take([0, 2, 1]), LINE, LINE)[1:], [[3, 2, 0, 1]] * 2)


class Show(unittest.TestCase):
    def test_shows_each_type_as_it_was_taken(self):
        for kind in kinds_up_to(7):
            self.assertEqual(ask(take(kind), SHOW), [[len(kind)], [len(kind)] + list(kind)])

    def test_sees_take_turn_and_double(self):
        told = ask(
            take([0]), SHOW, DOUBLE, SHOW, take([0, 1, 2]), SHOW, TURN, SHOW, DOUBLE, SHOW, TURN, SHOW,
            take([0, 1, 3, 2]), SHOW, TURN, SHOW,
        )
        self.assertEqual(told[1::2], [
            [1, 0], [2, 0, 1], [3, 0, 1, 2], [3, 0, 2, 1], [6, 0, 4, 2, 1, 5, 3], [6, 0, 2, 5, 1, 3, 4],
            [4, 0, 1, 3, 2], [4, 0, 1, 3, 2],
        ])

    def test_is_the_same_behind_what_is_refused(self):
        for kind in ([0], [0, 2, 1], [0, 3, 1, 2], [0, 4, 2, 1, 3], range(6), range(7)):
            refused = [
                take([]), take([0, 2]), take(range(8)), brings([1]), brings(range(7)), types(0), types(7),
                nth(0, 0), nth(7, 0), nth(1, 1), nth(6, LARGEST), by(0), by(6), first(0), first(6),
            ]
            refused += [DOUBLE] * (len(kind) > 3) + [by(1)] * (len(kind) > 5) + [ALONE] * (len(kind) > 6)
            for call in refused:
                before, told, after = ask(take(kind), SHOW, call, SHOW)[1:]
                self.assertEqual((len(told), told[0] < 0), (1, True), call)
                self.assertEqual(before, [len(kind)] + list(kind))
                self.assertEqual(after, before, call)


class Turn(unittest.TestCase):
    def test_written_out(self):
        for kind, mirror in [
            ([0], [0]),
            ([0, 1], [0, 1]),
            ([0, 1, 2], [0, 2, 1]),
            ([0, 1, 2, 3], [0, 3, 2, 1]),
            ([0, 2, 1, 3], [0, 3, 1, 2]),
            ([0, 1, 3, 2], [0, 1, 3, 2]),
            ([0, 2, 3, 1], [0, 2, 3, 1]),
            ([0, 1, 2, 3, 4, 5, 6], [0, 6, 5, 4, 3, 2, 1]),
            ([0, 2, 5, 1, 6, 4, 3], [0, 2, 3, 6, 4, 1, 5]),
        ]:
            self.assertEqual(ask(take(kind), TURN)[1], [len(kind)] + mirror)

    def test_is_the_type_then(self):
        told = ask(take([0, 1, 2]), TURN, LINE, brings([0, 2, 1]), brings([0, 1, 2]))
        self.assertEqual(told, [[3], [3, 0, 2, 1], [3, 2, 0, 1], [1], [0]])

    def test_twice_is_as_it_was(self):
        for kind in kinds_up_to(7):
            told = ask(take(kind), TURN, TURN)
            self.assertEqual(told[1], [len(kind)] + list(turned(kind)))
            self.assertEqual(told[2], [len(kind)] + list(kind))


class Double(unittest.TestCase):
    def test_written_out(self):
        for kind, twice in [
            ([0], [0, 1]),
            ([0, 1], [0, 2, 1, 3]),
            ([0, 1, 2], [0, 2, 4, 1, 3, 5]),
            ([0, 2, 1], [0, 4, 2, 1, 5, 3]),
        ]:
            self.assertEqual(ask(take(kind), DOUBLE)[1], [len(twice)] + twice)
            self.assertEqual(twice, list(doubled(kind)))

    def test_doubled_again_until_there_are_too_many(self):
        told = ask(take([0]), DOUBLE, DOUBLE, DOUBLE, LINE)
        self.assertEqual(told, [[1], [2, 0, 1], [4, 0, 2, 1, 3], TOO_MANY, [4, 2, 3, 1, 0]])

    def test_more_than_three_steps_are_refused_and_stay(self):
        for k in (4, 5, 6, 7):
            for kind in all_kinds(k):
                before, told, after = ask(take(kind), LINE, DOUBLE, LINE)[1:]
                self.assertEqual(told, TOO_MANY)
                self.assertEqual(before, after)

    def test_is_the_type_then(self):
        told = ask(take([0, 2, 1]), DOUBLE, LINE, TURN, brings([0, 1, 2]), brings([0, 2, 1]))
        self.assertEqual(told[2:], [[6, 4, 5, 1, 0, 2, 3], [6, 0, 2, 5, 1, 3, 4], [1], [0]])


if __name__ == "__main__":
    unittest.main()
