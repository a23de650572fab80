"""Promise 1 of take, line, turn and double."""

import unittest

from support import (
    DOUBLE, LARGEST, LINE, NOT_AS_TOLD, NOTHING_TAKEN, TOO_MANY, TURN,
    all_kinds, ask, brings, doubled, kinds_up_to, take, turned, types,
)

NO_KINDS = [
    [],
    [1],
    [LARGEST],
    [1, 0],
    [0, 0],
    [0, 2],
    [0, 1, 1],
    [0, 1, 3],
    [0, LARGEST],
    [0, 1, 2, LARGEST],
    [1, 2, 0],
    [0, 2, 2, 1],
    [0, 1, 2, 3, 4, 5, 5],
    [0, 1, 2, 3, 4, 5, 7],
    [2, 0, 1, 3, 4, 5, 6],
]
TOO_LONG_TO_TAKE = [list(range(k)) for k in (8, 9, 10)]


class Take(unittest.TestCase):
    def test_answers_how_many_steps(self):
        for kind in kinds_up_to(7):
            self.assertEqual(ask(take(kind)), [[len(kind)]])

    def test_refuses_what_is_no_type(self):
        for row in NO_KINDS:
            self.assertEqual(ask(take(row)), [NOT_AS_TOLD], row)

    def test_refuses_more_than_seven_steps(self):
        for row in TOO_LONG_TO_TAKE:
            self.assertEqual(ask(take(row)), [NOT_AS_TOLD], row)

    def test_taken_again_is_the_type_then(self):
        told = ask(take([0, 1, 2]), LINE, take([0, 2, 3, 1]), LINE, take([0]), LINE)
        self.assertEqual(told, [[3], [3, 1, 2, 0], [4], [4, 2, 0, 3, 1], [1], [1, 0]])

    def test_refused_leaves_the_type(self):
        for row in NO_KINDS + TOO_LONG_TO_TAKE:
            told = ask(take([0, 2, 1]), take(row), LINE, types(3))
            self.assertEqual(told, [[3], NOT_AS_TOLD, [3, 2, 0, 1], [1]], row)


class NothingTaken(unittest.TestCase):
    OTHERS = [
        LINE, TURN, DOUBLE, brings([0]), brings([]), brings(range(7)), types(1), types(0), types(LARGEST),
        [6, 1, 0], [7], [8], [9, 1], [9, 0], [10, 1], [10, 6], [11],
    ]

    def test_all_others_are_refused_ahead_of_all_else(self):
        for call in self.OTHERS:
            self.assertEqual(ask(call), [NOTHING_TAKEN], call)
        self.assertEqual(ask(*self.OTHERS), [NOTHING_TAKEN] * len(self.OTHERS))

    def test_also_behind_a_refused_take(self):
        for row in NO_KINDS + TOO_LONG_TO_TAKE:
            for call in self.OTHERS:
                self.assertEqual(ask(take(row), call), [NOT_AS_TOLD, NOTHING_TAKEN], (row, call))

    def test_a_later_take_is_taken(self):
        told = ask(LINE, take([0, 0]), types(1), take([0, 1]), LINE, types(1))
        self.assertEqual(told, [NOTHING_TAKEN, NOT_AS_TOLD, NOTHING_TAKEN, [2], [2, 1, 0], [1]])


class Line(unittest.TestCase):
    def test_written_out(self):
        for kind, line in [
            ([0], [0]),
            ([0, 1], [1, 0]),
            ([0, 1, 2], [1, 2, 0]),
            ([0, 2, 1], [2, 0, 1]),
            ([0, 2, 1, 3], [2, 3, 1, 0]),
            ([0, 1, 3, 2], [1, 3, 0, 2]),
            ([0, 3, 1, 4, 2], [3, 4, 0, 1, 2]),
            ([0, 1, 2, 3, 4, 5, 6], [1, 2, 3, 4, 5, 6, 0]),
            ([0, 6, 1, 5, 2, 4, 3], [6, 5, 4, 0, 3, 2, 1]),
        ]:
            self.assertEqual(ask(take(kind), LINE)[1], [len(kind)] + line)

    def test_goes_along_each_type(self):
        for kind in kinds_up_to(7):
            line = ask(take(kind), LINE)[1][1:]
            places = [0]
            while len(places) < len(kind):
                places.append(line[places[-1]])
            self.assertEqual(tuple(places), kind)
            self.assertEqual(line[places[-1]], 0)

    def test_changes_nothing(self):
        self.assertEqual(ask(take([0, 2, 1]), LINE, LINE)[1:], [[3, 2, 0, 1]] * 2)


class Turn(unittest.TestCase):
    def test_written_out(self):
        for kind, mirror in [
            ([0], [0]),
            ([0, 1], [0, 1]),
            ([0, 1, 2], [0, 2, 1]),
            ([0, 1, 2, 3], [0, 3, 2, 1]),
            ([0, 2, 1, 3], [0, 3, 1, 2]),
            ([0, 1, 3, 2], [0, 1, 3, 2]),
            ([0, 2, 3, 1], [0, 2, 3, 1]),
            ([0, 1, 2, 3, 4, 5, 6], [0, 6, 5, 4, 3, 2, 1]),
            ([0, 2, 5, 1, 6, 4, 3], [0, 2, 3, 6, 4, 1, 5]),
        ]:
            self.assertEqual(ask(take(kind), TURN)[1], [len(kind)] + mirror)

    def test_is_the_type_then(self):
        told = ask(take([0, 1, 2]), TURN, LINE, brings([0, 2, 1]), brings([0, 1, 2]))
        self.assertEqual(told, [[3], [3, 0, 2, 1], [3, 2, 0, 1], [1], [0]])

    def test_twice_is_as_it_was(self):
        for kind in kinds_up_to(7):
            told = ask(take(kind), TURN, TURN)
            self.assertEqual(told[1], [len(kind)] + list(turned(kind)))
            self.assertEqual(told[2], [len(kind)] + list(kind))


class Double(unittest.TestCase):
    def test_written_out(self):
        for kind, twice in [
            ([0], [0, 1]),
            ([0, 1], [0, 2, 1, 3]),
            ([0, 1, 2], [0, 2, 4, 1, 3, 5]),
            ([0, 2, 1], [0, 4, 2, 1, 5, 3]),
        ]:
            self.assertEqual(ask(take(kind), DOUBLE)[1], [len(twice)] + twice)
            self.assertEqual(twice, list(doubled(kind)))

    def test_doubled_again_until_there_are_too_many(self):
        told = ask(take([0]), DOUBLE, DOUBLE, DOUBLE, LINE)
        self.assertEqual(told, [[1], [2, 0, 1], [4, 0, 2, 1, 3], TOO_MANY, [4, 2, 3, 1, 0]])

    def test_more_than_three_steps_are_refused_and_stay(self):
        for k in (4, 5, 6, 7):
            for kind in all_kinds(k):
                before, told, after = ask(take(kind), LINE, DOUBLE, LINE)[1:]
                self.assertEqual(told, TOO_MANY)
                self.assertEqual(before, after)

    def test_is_the_type_then(self):
        told = ask(take([0, 2, 1]), DOUBLE, LINE, TURN, brings([0, 1, 2]), brings([0, 2, 1]))
        self.assertEqual(told[2:], [[6, 4, 5, 1, 0, 2, 3], [6, 0, 2, 5, 1, 3, 4], [1], [0]])


if __name__ == "__main__":
    unittest.main()
