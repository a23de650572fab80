"""What holds of all types: 'What holds' in the document."""

import unittest

from support import (
    DOUBLE, STEPS, TURN,
    all_kinds, ask, brings, brought_by, by, doubled, kinds_up_to, nth, take, turned, types,
)

ALL = kinds_up_to(6)
BROUGHT = {kind: brought_by(kind, ALL) for kind in ALL}

# The strange order of 1 to 7, what brings most first.
STRANGE = [3, 5, 7, 6, 4, 2, 1]


class WhatHolds(unittest.TestCase):
    def test_each_brings_itself(self):
        for kind in ALL:
            self.assertIn(kind, BROUGHT[kind])

    def test_two_different_ones_never_bring_each_other(self):
        for kind in ALL:
            for other in BROUGHT[kind] - {kind}:
                self.assertNotIn(kind, BROUGHT[other])

    def test_what_is_brought_brings_no_more(self):
        for kind in ALL:
            for other in BROUGHT[kind]:
                self.assertLessEqual(BROUGHT[other], BROUGHT[kind])

    def test_also_what_seven_steps_bring_brings_no_more(self):
        for kind in all_kinds(7)[::7]:
            brought = brought_by(kind, ALL)
            for other in brought:
                self.assertLessEqual(BROUGHT[other], brought)

    def test_the_strange_order(self):
        for kind in kinds_up_to(7):
            due = [j for j in STRANGE[STRANGE.index(len(kind)):] if j < 7]
            for answer in ask(take(kind), *[types(j) for j in due])[1:]:
                self.assertGreaterEqual(answer[0], 1)
            together = sum(2 ** (j - 1) for j in due)
            self.assertEqual(ask(take(kind), STEPS)[1][0] & together, together)

    def test_doubled_it_brings_what_it_was_made_of(self):
        for kind in kinds_up_to(3):
            told = ask(take(kind), DOUBLE, brings(kind), *[brings(other) for other in sorted(BROUGHT[kind])])
            self.assertEqual(told[2:], [[1]] * (1 + len(BROUGHT[kind])))
            self.assertNotIn(doubled(kind), BROUGHT[kind])

    def test_turned_about_what_is_brought_is_turned_about(self):
        for kind in ALL:
            told = ask(take(kind), TURN, *[brings(turned(other)) for other in ALL])
            self.assertEqual(told[2:], [[1 if other in BROUGHT[kind] else 0] for other in ALL])

    def test_whoever_has_it_has_what_it_brings(self):
        # Of as many steps, all that bring a type bring each that it brings: by never counts fewer of these.
        for kind in kinds_up_to(5):
            counted = [told[0] for told in ask(take(kind), *[by(k) for k in range(1, 6)])[1:]]
            for other in BROUGHT[kind]:
                if len(other) < 6:
                    more = [told[0] for told in ask(take(other), *[by(k) for k in range(1, 6)])[1:]]
                    self.assertTrue(all(a <= b for a, b in zip(counted, more)), (kind, other))

    def test_nth_of_one_turned_about(self):
        for kind in all_kinds(7)[::40]:
            for j in range(1, 7):
                count = ask(take(kind), types(j))[1][0]
                asked = [nth(j, i) for i in range(count)]
                told = ask(take(kind), *asked, TURN, *asked)[1:]
                self.assertEqual(
                    sorted(turned(row[1:]) for row in told[:count]), [tuple(row[1:]) for row in told[count + 1:]])

    def test_types_counts_what_is_brought(self):
        for kind in ALL:
            told = ask(take(kind), *[types(j) for j in range(1, 7)])
            counted = [[sum(len(other) == j for other in BROUGHT[kind])] for j in range(1, 7)]
            self.assertEqual(told[1:], counted)


if __name__ == "__main__":
    unittest.main()
