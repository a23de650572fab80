"""The calls on one object that holds a kind, and what they answer."""

from roundtypes.rounds import doubled, is_kind, kinds_brought, kinds_of, line_of, turned

NOTHING_TAKEN = -11
NOT_AS_TOLD = -22
TOO_MANY = -28
NO_MORE = -33

MOST_TAKEN = 7
MOST_BROUGHT = 6
MOST_COMPARED = 5
MOST_DOUBLED = 3

TAKE = 0
LINE = 1
TURN = 2
DOUBLE = 3
BRINGS = 4
TYPES = 5
NTH = 6
STEPS = 7
ALONE = 8
BY = 9
FIRST = 10

# How many whole numbers stand behind each call's own number, from take to show.
NUMBERS = (0, 0, 0, 0, 0, 1, 2, 0, 0, 1, 1, 0)


class Holder:
    """Holds the kind that was taken; each call answers a list of numbers."""

    def __init__(self):
        self.kind = []
        self.known = {}

    def take(self, row):
        if not is_kind(row, MOST_TAKEN):
            return [NOT_AS_TOLD]
        self.kind = row
        return [len(row)]

    def line(self):
        return [len(self.kind)] + line_of(self.kind)

    def show(self):
        return [len(self.kind)] + self.kind

    def turn(self):
        self.kind = turned(self.kind)
        return self.show()

    def double(self):
        if len(self.kind) > MOST_DOUBLED:
            return [TOO_MANY]
        self.kind = doubled(self.kind)
        return self.show()

    def brings(self, row):
        if not is_kind(row, MOST_BROUGHT):
            return [NOT_AS_TOLD]
        return [1 if tuple(row) in self.brought(self.kind, len(row)) else 0]

    def types(self, steps):
        if not 1 <= steps <= MOST_BROUGHT:
            return [NOT_AS_TOLD]
        return [len(self.brought(self.kind, steps))]

    def nth(self, steps, before):
        if not 1 <= steps <= MOST_BROUGHT:
            return [NOT_AS_TOLD]
        kinds = self.brought(self.kind, steps)
        if len(kinds) <= before:
            return [NO_MORE]
        return [steps] + list(kinds[before])

    def steps(self):
        together = 0
        worth = 1
        for steps in range(1, MOST_BROUGHT + 1):
            if len(self.brought(self.kind, steps)) > 0:
                together = together + worth
            worth = 2 * worth
        return [together]

    def alone(self):
        if len(self.kind) > MOST_BROUGHT:
            return [TOO_MANY]
        alike = len(self.brought(self.kind, len(self.kind)))
        return [1 if alike == 1 else 0, alike]

    def by(self, steps):
        if not 1 <= steps <= MOST_COMPARED:
            return [NOT_AS_TOLD]
        held = tuple(self.kind)
        if len(held) > MOST_COMPARED:
            return [TOO_MANY]
        bringing = [kind for kind in kinds_of(steps) if held in self.brought(kind, len(held))]
        if len(bringing) == 0:
            return [0]
        return [len(bringing)] + list(bringing[0])

    def first(self, steps):
        if not 1 <= steps <= MOST_COMPARED:
            return [NOT_AS_TOLD]
        kinds = kinds_of(steps)
        # Each brings itself, so one that brings a single kind of its steps brings no other.
        least = [kind for kind in kinds if len(self.brought(kind, steps)) == 1]
        return [len(least), len(kinds)]

    def brought(self, kind, steps):
        """The kinds of so many steps that a kind brings, in order."""
        # Finding them is the one long work, and calls often ask for the same ones again.
        key = (tuple(kind), steps)
        if key not in self.known:
            self.known[key] = kinds_brought(kind, steps)
        return self.known[key]


def answer_of(holder, call, numbers, row):
    """What one call on the holder answers, number by number."""
    if call == TAKE:
        return holder.take(row)
    if len(holder.kind) == 0:
        return [NOTHING_TAKEN]
    if call == LINE:
        return holder.line()
    if call == TURN:
        return holder.turn()
    if call == DOUBLE:
        return holder.double()
    if call == BRINGS:
        return holder.brings(row)
    if call == TYPES:
        return holder.types(numbers[0])
    if call == NTH:
        return holder.nth(numbers[0], numbers[1])
    if call == STEPS:
        return holder.steps()
    if call == ALONE:
        return holder.alone()
    if call == BY:
        return holder.by(numbers[0])
    if call == FIRST:
        return holder.first(numbers[0])
    # There are twelve calls: what is left is show.
    return holder.show()


def calls_apart(calls):
    """The calls of one list, each as its own number, its whole numbers and its row."""
    apart = []
    at = 0
    while at < len(calls):
        call = calls[at]
        after = at + 1 + NUMBERS[call]
        numbers = calls[at + 1:after]
        row = []
        if call == TAKE or call == BRINGS:
            row = calls[after + 1:after + 1 + calls[after]]
            after = after + 1 + calls[after]
        apart.append((call, numbers, row))
        at = after
    return apart


def answers(calls):
    """For each call, in order, how many numbers it answers, then these."""
    holder = Holder()
    told = []
    for call, numbers, row in calls_apart(calls):
        answer = answer_of(holder, call, numbers, row)
        told.append(len(answer))
        told.extend(answer)
    return told
