"""Kinds of rounds, their lines, and the kinds that a line has rounds of.

A kind is a list or tuple of k different numbers from 0 to k less 1, the first of them 0.
"""


def is_kind(row, most):
    """Whether a row is a kind of at most so many steps."""
    return 1 <= len(row) <= most and row[0] == 0 and sorted(row) == list(range(len(row)))


def kinds_of(steps):
    """All kinds of so many steps, as tuples, in order."""
    rows = [(0,)]
    for length in range(1, steps):
        longer = []
        for row in rows:
            longer.extend([row + (number,) for number in range(1, steps) if number not in row])
        rows = longer
    return rows


def begun_at_least(row):
    """The same row, as it goes round, begun with its least number."""
    at = row.index(min(row))
    return row[at:] + row[:at]


def turned(kind):
    """The kind of the same places, told from the other end."""
    return begun_at_least([len(kind) - 1 - number for number in kind])


def doubled(kind):
    """The kind in which each place has become two neighbours."""
    return [2 * number for number in kind] + [2 * number + 1 for number in kind]


def line_of(kind):
    """Of each number, from 0 on, onto which it is put."""
    line = [0] * len(kind)
    for at, number in enumerate(kind):
        line[number] = kind[(at + 1) % len(kind)]
    return line


def slopes_of(line):
    """Of each piece between neighbours, the one from 0 first, how steep the line is there."""
    return [line[piece + 1] - line[piece] for piece in range(len(line) - 1)]


def shifts_of(line, slopes):
    """Of each piece, what slope times a place lacks to where the place is put."""
    return [line[piece] - slope * piece for piece, slope in enumerate(slopes)]


def covers_of(line):
    """Of each piece, the list of pieces that it is put over."""
    covers = []
    for piece in range(len(line) - 1):
        low = min(line[piece], line[piece + 1])
        high = max(line[piece], line[piece + 1])
        covers.append(list(range(low, high)))
    return covers


def ways_round(start, covers, steps):
    """All ways of so many pieces, each put over the next, from start back to it, through none below start."""
    ways = [[start]]
    for length in range(1, steps):
        longer = []
        for way in ways:
            # A round is found from its least place; below start it would only be found again.
            longer.extend([way + [piece] for piece in covers[way[length - 1]] if piece >= start])
        ways = longer
    return [way for way in ways if start in covers[way[steps - 1]]]


def places_along(way, slopes, shifts):
    """The places, one for each piece of a way round, that come back along it, all times one number above 0."""
    slope = 1
    shift = 0
    for piece in way:
        slope = slopes[piece] * slope
        shift = slopes[piece] * shift + shifts[piece]
    # All the way a place x is put onto slope * x + shift: shift over 1 - slope stays.
    place = shift if slope < 1 else -shift
    scale = abs(1 - slope)
    if slope == 1:
        # Each place of the piece comes back. All but the middle one, which comes back in half as
        # many steps and is found there, lie as the piece's end and its round do.
        place = way[0]
        scale = 1
    places = []
    for piece in way:
        places.append(place)
        place = slopes[piece] * place + shifts[piece] * scale
    return places


def kind_of(places):
    """The kind of a round, from its places as they come."""
    order = sorted(places)
    return tuple(begun_at_least([order.index(place) for place in places]))


def kinds_brought(kind, steps):
    """The kinds of so many steps that a kind brings, as tuples, in order."""
    if len(kind) == 1:
        # Its line is one place and has no piece to go through.
        return [(0,)] if steps == 1 else []
    line = line_of(kind)
    slopes = slopes_of(line)
    shifts = shifts_of(line, slopes)
    covers = covers_of(line)
    found = {}
    for start in range(len(covers)):
        for way in ways_round(start, covers, steps):
            places = places_along(way, slopes, shifts)
            # Places that come twice have come back in fewer steps.
            if len(set(places)) == steps:
                found[kind_of(places)] = True
    return sorted(list(found))
