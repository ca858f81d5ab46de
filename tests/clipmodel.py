"""What the tests of clips share: sample clips, and what they have, reckoned with Fraction."""

import re
from fractions import Fraction

ZERO = (0, 1)


def pair(fraction):
    """The number of a fraction or an integer."""
    fraction = Fraction(fraction)
    return fraction.numerator, fraction.denominator


def track(start, *pieces):
    """A track that begins with a value; each piece is told as (length, slope, bend)."""
    made = []
    value = Fraction(start)
    for length, slope, bend in pieces:
        length, slope, bend = Fraction(length), Fraction(slope), Fraction(bend)
        made.append((pair(length), (pair(value), pair(slope), pair(bend))))
        value += slope * length + bend * length * length
    return tuple(made)


def clip(tracks, markers=()):
    """A clip of a dict of tracks and a list of (position, name)."""
    length = sum(Fraction(*piece[0]) for piece in next(iter(tracks.values())))
    rows = tuple(sorted(tracks.items()))
    ordered = sorted((Fraction(place), name) for place, name in markers)
    return pair(length), rows, tuple((pair(place), name) for place, name in ordered)


def lengths(some_track):
    return [Fraction(*length) for length, _ in some_track]


def bounds(some_track):
    """The positions where pieces begin, and where the last one ends."""
    found = [Fraction(0)]
    for length in lengths(some_track):
        found.append(found[-1] + length)
    return found


def formulas(some_track):
    """(from, to, a, b, c) of each piece, with the places counted from its beginning."""
    stops = bounds(some_track)
    return [(low, high, *[Fraction(*part) for part in formula])
            for low, high, (_, formula) in zip(stops, stops[1:], some_track)]


def value(some_clip, prop, position):
    """The value of a property; all pieces in which the position lies have to agree."""
    found = {a + b * (position - low) + c * (position - low) ** 2
             for low, high, a, b, c in formulas(dict(some_clip[1])[prop])
             if low <= position <= high}
    (only,) = found
    return only


def slopes(some_clip, prop, position):
    """The slopes towards the beginning and towards the end."""
    found = [b + 2 * c * (position - low)
             for low, high, a, b, c in formulas(dict(some_clip[1])[prop])
             if low <= position <= high]
    return found[0], found[-1]


def extremes(some_clip, prop, first, second):
    """The least and the greatest value from the first to the second position."""
    places = {first, second}
    for low, high, _, b, c in formulas(dict(some_clip[1])[prop]):
        places.add(low)
        if c != 0 and low <= low - b / (2 * c) <= high:
            places.add(low - b / (2 * c))
    found = [value(some_clip, prop, place) for place in places if first <= place <= second]
    return min(found), max(found)


def grid(some_clip, steps=24):
    """Positions from 0 to the length, those where pieces meet and those of markers among them."""
    length = Fraction(*some_clip[0])
    found = {length * step / steps for step in range(steps + 1)}
    for _, some_track in some_clip[1]:
        found.update(bounds(some_track))
    found.update(Fraction(*place) for place, _ in some_clip[2])
    return sorted(found)


def markers(some_clip):
    """The set of its markers."""
    return {(Fraction(*place), name) for place, name in some_clip[2]}


def props(some_clip):
    return [prop for prop, _ in some_clip[1]]


def split(some_clip, prop, *positions):
    """The clip with pieces of a property cut in two at these positions; it is not normal then."""
    made = []
    stops = sorted({*bounds(dict(some_clip[1])[prop]), *map(Fraction, positions)})
    for start, stop in zip(stops, stops[1:]):
        slope = slopes(some_clip, prop, start)[1]
        rise = value(some_clip, prop, stop) - value(some_clip, prop, start)
        bend = (rise / (stop - start) - slope) / (stop - start)
        formula = tuple(map(pair, (value(some_clip, prop, start), slope, bend)))
        made.append((pair(stop - start), formula))
    rows = tuple((name, tuple(made) if name == prop else old) for name, old in some_clip[1])
    return some_clip[0], rows, some_clip[2]


def joints_that_are_needed(some_track):
    """How many pieces are not what the one before them would be if it went on."""
    count = 0
    rows = formulas(some_track)
    for (low, high, a, b, c), (_, _, a2, b2, c2) in zip(rows, rows[1:]):
        t = high - low
        count += (a + b * t + c * t * t, b + 2 * c * t, c) != (a2, b2, c2)
    return count


def is_normal(some_clip):
    return all(joints_that_are_needed(row) == len(row) - 1 for _, row in some_clip[1])


def is_number(found):
    return (type(found) is tuple and [type(part) for part in found] == [int, int]
            and found[1] >= 1 and pair(Fraction(*found)) == found)


def is_name(found):
    return type(found) is str and re.fullmatch("[a-z][a-z0-9_]{0,11}", found) is not None


def is_track(found, length):
    if type(found) is not tuple or not found:
        return False
    for piece in found:
        if type(piece) is not tuple or type(piece[1]) is not tuple or len(piece[1]) != 3:
            return False
        if not all(map(is_number, (piece[0], *piece[1]))) or piece[0][0] <= 0:
            return False
    rows = formulas(found)
    for (low, high, a, b, c), following in zip(rows, rows[1:]):
        if a + b * (high - low) + c * (high - low) ** 2 != following[2]:
            return False
    return sum(lengths(found)) == length


def is_clip(found):
    """Tells whether this is a clip, by all that [4] says but the greatest numbers of parts."""
    if type(found) is not tuple or not is_number(found[0]) or found[0][0] <= 0:
        return False
    length, rows, marks = found
    if type(rows) is not tuple or type(marks) is not tuple or not rows:
        return False
    for row in (*rows, *marks):
        if type(row) is not tuple or not is_name(row[0] if row in rows else row[1]):
            return False
    names = [prop for prop, _ in rows]
    places = [(Fraction(*place), name) for place, name in marks]
    return (all(is_track(row, Fraction(*length)) for _, row in rows)
            and names == sorted(set(names)) and places == sorted(set(places))
            and all(is_number(place) for place, _ in marks)
            and all(0 <= place <= Fraction(*length) for place, _ in places))


# A track of each kind: level, a slope, a bend that turns inside, several pieces, a break in the
# slope, a smooth joint, pieces that could be one.
HILL = track(0, (4, 4, -1))
STEPS = track(0, (1, 0, 0), (1, 2, 0), (Fraction(3, 2), -1, 0), (Fraction(1, 2), 0, 8))
EASE = track(Fraction(1, 3), (2, 0, Fraction(1, 2)), (2, 2, Fraction(-1, 2)))
PARTED = track(-1, (1, 1, 0), (1, 1, 0), (1, 1, 0), (1, -2, 0))
LEVEL = track(5, (4, 0, 0))

SAMPLES = {
    "hill": clip({"lamp": HILL}, [(0, "on"), (2, "top"), (4, "off")]),
    "level": clip({"lamp": LEVEL}),
    "steps": clip({"lamp": STEPS}, [(1, "a"), (1, "b"), (2, "a")]),
    "many": clip({"lamp": HILL, "curtain": STEPS, "door": EASE, "bell": PARTED, "fog": LEVEL},
                 [(Fraction(1, 3), "x"), (Fraction(7, 2), "x_1")]),
    "short": clip({"lamp": track(Fraction(-7, 3), (Fraction(1, 7), Fraction(5, 2), -3),
                                 (Fraction(2, 7), 0, Fraction(11, 5)))}),
    "parted": clip({"lamp": PARTED, "door": track(0, (1, 0, 1), (1, 2, 1), (2, 4, 1))}),
}
