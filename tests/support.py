"""What the tests share: calls written out, answers taken apart, and the document's words done slowly."""

from fractions import Fraction
from functools import lru_cache
from itertools import permutations
from math import ceil, floor

from roundtypes.types import answers

NOTHING_TAKEN = [-11]
NOT_AS_TOLD = [-22]
TOO_MANY = [-28]
NO_MORE = [-33]

LARGEST = 4294967295

LINE = [1]
TURN = [2]
DOUBLE = [3]
STEPS = [7]
ALONE = [8]
SHOW = [11]

SIX = range(1, 7)
FIVE = range(1, 6)


def take(row):
    return [0, len(row)] + list(row)


def brings(row):
    return [4, len(row)] + list(row)


def types(j):
    return [5, j]


def nth(j, i):
    return [6, j, i]


def by(k):
    return [9, k]


def first(k):
    return [10, k]


def ask(*calls):
    """The answer to each call, as lists, of calls made in order on one new object."""
    told = answers([number for call in calls for number in call])
    apart = []
    at = 0
    while at < len(told):
        apart.append(told[at + 1:at + 1 + told[at]])
        at += 1 + told[at]
    assert at == len(told) and len(apart) == len(calls), told
    return apart


def all_kinds(k):
    """All types of k steps, in order."""
    return [(0,) + rest for rest in permutations(range(1, k))]


def kinds_up_to(k):
    return [kind for steps in range(1, k + 1) for kind in all_kinds(steps)]


def brought_by(kind, candidates):
    """Those of the candidates that brings answers 1 to, when kind was taken."""
    told = ask(take(kind), *[brings(other) for other in candidates])
    return {other for other, answer in zip(candidates, told[1:]) if answer == [1]}


def turned(kind):
    row = [len(kind) - 1 - number for number in kind]
    return tuple(row[row.index(0):] + row[:row.index(0)])


def doubled(kind):
    return tuple([2 * number for number in kind] + [2 * number + 1 for number in kind])


class SlowLine:
    """A type's line as the document tells it: places are fractions, each put by itself.

    Rounds are found where the line, gone through j times, meets the places themselves;
    so nothing here goes by pieces that are put over one another.
    """

    def __init__(self, kind):
        self.last = len(kind) - 1
        self.onto = {number: kind[(at + 1) % len(kind)] for at, number in enumerate(kind)}

    def put(self, place):
        low = place.numerator // place.denominator
        if low == place:
            return Fraction(self.onto[low])
        return self.onto[low] + (place - low) * (self.onto[low + 1] - self.onto[low])

    def bends(self, steps):
        """Places and where they are so many steps later; between neighbours all goes straight."""
        points = [(Fraction(x), Fraction(x)) for x in range(self.last + 1)]
        for _ in range(steps):
            finer = [points[0]]
            for (x0, y0), (x1, y1) in zip(points, points[1:]):
                crossed = range(floor(min(y0, y1)) + 1, ceil(max(y0, y1)))
                between = [(x0 + (x1 - x0) * (y - y0) / (y1 - y0), Fraction(y)) for y in crossed]
                finer.extend(sorted(between))
                finer.append((x1, y1))
            points = [(x, self.put(y)) for x, y in finer]
        return points

    def places_back(self, steps):
        """Places that are where they were behind so many steps; of a piece of them some."""
        points = self.bends(steps)
        back = {x for x, y in points if x == y}
        for (x0, y0), (x1, y1) in zip(points, points[1:]):
            if x0 == y0 and x1 == y1:
                back.update(x0 + (x1 - x0) * part / 12 for part in range(13))
            elif (x0 - y0) * (x1 - y1) < 0:
                back.add(x0 + (x1 - x0) * (y0 - x0) / ((y0 - x0) - (y1 - x1)))
        return back

    def kinds(self, steps):
        found = set()
        for place in self.places_back(steps):
            places = [place]
            while self.put(places[-1]) != place:
                places.append(self.put(places[-1]))
            if len(places) == steps:
                least = places.index(min(places))
                ranks = [sum(other < one for other in places) for one in places]
                found.add(tuple(ranks[least:] + ranks[:least]))
        return found


@lru_cache(maxsize=None)
def slow_kinds(kind, steps):
    """The types of so many steps that the slow line of a type has rounds of, in order."""
    return sorted(SlowLine(kind).kinds(steps))
