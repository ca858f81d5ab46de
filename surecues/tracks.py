"""Pieces and tracks: their values and slopes, where they turn, and normal tracks.

The formula of a piece is its triple (a, b, c): at a place t it has the value a + b * t + c * t * t.
"""

from surecues.numbers import TWO, ZERO, compare, minus, negative, over, plus, times


def track_of(clip, prop):
    """The track of a property."""
    return dict(clip[1])[prop]


def value_of(formula, place):
    """The value of a formula at a place."""
    a, b, c = formula
    return plus(a, times(place, plus(b, times(c, place))))


def slope_of(formula, place):
    """The slope of a formula at a place."""
    _, b, c = formula
    return plus(b, times(TWO, times(c, place)))


def moved(formula, place):
    """The formula that has from 0 on what the given one has from a place on."""
    return value_of(formula, place), slope_of(formula, place), formula[2]


def end_value(piece):
    """The value with which a piece ends."""
    length, formula = piece
    return value_of(formula, length)


def find_place(track, position, back):
    """The formula of the piece in which a position lies, and the place in it.

    Where two pieces meet, this is the later one, or with back the earlier one.
    """
    place = position
    for length, formula in track[:-1]:
        order = compare(place, length)
        if order < 0 or (back and order == 0):
            return formula, place
        place = minus(place, length)
    return track[-1][1], place


def bounds(track):
    """The positions at which the pieces begin, and the one at which the last piece ends."""
    found = [ZERO]
    for length, _ in track:
        found.append(plus(found[-1], length))
    return found


def turns(track):
    """The positions inside of pieces at which the slope is 0, but not around them."""
    found = []
    for start, (length, formula) in zip(bounds(track), track):
        _, b, c = formula
        if c == ZERO:
            continue
        place = over(b, times((-2, 1), c))
        if compare(place, ZERO) > 0 and compare(place, length) < 0:
            found.append(plus(start, place))
    return found


def split_at(track, stops):
    """The pieces that the track has between neighboring ones of some ascending positions.

    No two pieces of the track meet between two neighboring ones.
    """
    pieces = []
    for start, stop in zip(stops, stops[1:]):
        formula, place = find_place(track, start, False)
        pieces.append((minus(stop, start), moved(formula, place)))
    return pieces


def reversed_piece(piece):
    """The piece that goes from the end of this one to its beginning."""
    length, formula = piece
    value, slope, bend = moved(formula, length)
    return length, (value, negative(slope), bend)


def normal_track(track):
    """The normal track with the same value at each position."""
    pieces = []
    for piece in track:
        if pieces and _goes_on(pieces[-1], piece):
            length, formula = pieces[-1]
            pieces[-1] = (plus(length, piece[0]), formula)
        else:
            pieces.append(piece)
    return tuple(pieces)


def _goes_on(first, second):
    """Tells whether the second piece is what the first one would be if it went on."""
    length, formula = first
    return moved(formula, length) == second[1]
