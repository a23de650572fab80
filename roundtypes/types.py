"""The calls on one object that holds a kind, and what they answer."""

from roundtypes.rounds import doubled, is_kind, kinds_brought, line_of, turned

NOTHING_TAKEN = -11
NOT_AS_TOLD = -22
TOO_MANY = -28

MOST_TAKEN = 7
MOST_BROUGHT = 6
MOST_DOUBLED = 3

TAKE = 0
LINE = 1
TURN = 2
DOUBLE = 3
BRINGS = 4
TYPES = 5

# How many whole numbers stand behind each call's own number, from take to show.
NUMBERS = (0, 0, 0, 0, 0, 1, 2, 0, 0, 1, 1, 0)


class Holder:
    """Holds the kind that was taken; each call answers a list of numbers."""

    def __init__(self):
        self.kind = []
        self.known = {}

    def take(self, row):
        if not is_kind(row, MOST_TAKEN):
            return [NOT_AS_TOLD]
        self.kind = row
        return [len(row)]

    def line(self):
        return [len(self.kind)] + line_of(self.kind)

    def turn(self):
        self.kind = turned(self.kind)
        return [len(self.kind)] + self.kind

    def double(self):
        if len(self.kind) > MOST_DOUBLED:
            return [TOO_MANY]
        self.kind = doubled(self.kind)
        return [len(self.kind)] + self.kind

    def brings(self, row):
        if not is_kind(row, MOST_BROUGHT):
            return [NOT_AS_TOLD]
        return [1 if tuple(row) in self.brought(len(row)) else 0]

    def types(self, steps):
        if not 1 <= steps <= MOST_BROUGHT:
            return [NOT_AS_TOLD]
        return [len(self.brought(steps))]

    def brought(self, steps):
        """The kinds of so many steps that the held kind brings, in order."""
        # Finding them is the one long work, and calls often ask for the same ones again.
        key = (tuple(self.kind), steps)
        if key not in self.known:
            self.known[key] = kinds_brought(self.kind, steps)
        return self.known[key]


def answer_of(holder, call, numbers, row):
    """What one call on the holder answers, number by number."""
    if call == TAKE:
        return holder.take(row)
    if len(holder.kind) == 0:
        return [NOTHING_TAKEN]
    if call == LINE:
        return holder.line()
    if call == TURN:
        return holder.turn()
    if call == DOUBLE:
        return holder.double()
    if call == BRINGS:
        return holder.brings(row)
    if call == TYPES:
        return holder.types(numbers[0])
    raise NotImplementedError("this call is not there yet")


def calls_apart(calls):
    """The calls of one list, each as its own number, its whole numbers and its row."""
    apart = []
    at = 0
    while at < len(calls):
        call = calls[at]
        after = at + 1 + NUMBERS[call]
        numbers = calls[at + 1:after]
        row = []
        if call == TAKE or call == BRINGS:
            row = calls[after + 1:after + 1 + calls[after]]
            after = after + 1 + calls[after]
        apart.append((call, numbers, row))
        at = after
    return apart


def answers(calls):
    """For each call, in order, how many numbers it answers, then these."""
    holder = Holder()
    told = []
    for call, numbers, row in calls_apart(calls):
        answer = answer_of(holder, call, numbers, row)
        told.append(len(answer))
        told.extend(answer)
    return told
