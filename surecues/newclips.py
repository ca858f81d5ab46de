"""Clips that are made from others; each of them is returned in normal form."""

from surecues.clips import normal
from surecues.errors import ClipError
from surecues.limits import MARKERS, PIECES
from surecues.numbers import ONE, ZERO, compare, minus, negative, over, plus, times
from surecues.ordering import ascending, between, is_within, markers_in_order
from surecues.tracks import bounds, end_value, reversed_piece, split_at


def reversed_clip(clip):
    """The clip that goes from the end of this one to its beginning."""
    length, tracks, markers = clip
    turned = [(prop, [reversed_piece(piece) for piece in reversed(track)]) for prop, track in tracks]
    return _finished(length, turned, [(minus(length, place), name) for place, name in markers])


def stretched(clip, factor):
    """The clip that takes this factor of the time."""
    if compare(factor, ZERO) <= 0:
        raise ClipError("factor not above 0")
    length, tracks, markers = clip
    longer = [(prop, [_stretched_piece(piece, factor) for piece in track]) for prop, track in tracks]
    later = [(times(place, factor), name) for place, name in markers]
    return _finished(times(length, factor), longer, later)


def cut(clip, first, second):
    """What a clip has from the first position to the second one, moved to begin at 0."""
    length, tracks, markers = clip
    if compare(second, first) <= 0:
        raise ClipError("empty cut")
    if not is_within(first, ZERO, length) or not is_within(second, ZERO, length):
        raise ClipError("outside the clip")
    parts = [(prop, _cut_track(track, first, second)) for prop, track in tracks]
    kept = [(place, name) for place, name in markers if is_within(place, first, second)]
    return _finished(minus(second, first), parts, _markers_from(kept, negative(first)))


def joined(first, second):
    """The clip that shows the first one and then the second one."""
    if _props_of(first) != _props_of(second):
        raise ClipError("other properties")
    tracks = []
    for (prop, one), (_, other) in zip(first[1], second[1]):
        if end_value(one[-1]) != _first_value(other):
            raise ClipError("does not go on")
        tracks.append((prop, one + other))
    markers = [*first[2], *_markers_from(second[2], first[0])]
    return _finished(plus(first[0], second[0]), tracks, markers)


def mixed(first, second, weight):
    """The clip that is at each position so much of the second one, and the rest of the first."""
    if _props_of(first) != _props_of(second):
        raise ClipError("other properties")
    if first[0] != second[0]:
        raise ClipError("other length")
    tracks = []
    for (prop, one), (_, other) in zip(first[1], second[1]):
        tracks.append((prop, _mixed_track(one, other, weight)))
    return _finished(first[0], tracks, first[2] + second[2])


def _finished(length, tracks, markers):
    """The normal form of a new clip, if it is not too great."""
    clip = normal((length, tuple(tracks), markers_in_order(markers)))
    if any([len(track) > PIECES for _, track in clip[1]]):
        raise ClipError("too many pieces")
    if len(clip[2]) > MARKERS:
        raise ClipError("too many markers")
    return clip


def _stretched_piece(piece, factor):
    length, (a, b, c) = piece
    return times(length, factor), (a, over(b, factor), over(c, times(factor, factor)))


def _cut_track(track, first, second):
    """The pieces of a track from the first position to the second one."""
    return split_at(track, [first, *between(bounds(track), first, second), second])


def _mixed_track(one, other, weight):
    """The pieces of two tracks, cut where pieces of either one meet, and mixed pair by pair."""
    stops = ascending(bounds(one) + bounds(other))
    pieces = []
    for (length, left), (_, right) in zip(split_at(one, stops), split_at(other, stops)):
        formula = tuple([_mixed_number(low, high, weight) for low, high in zip(left, right)])
        pieces.append((length, formula))
    return pieces


def _mixed_number(first, second, weight):
    return plus(times(minus(ONE, weight), first), times(weight, second))


def _markers_from(markers, start):
    """The markers, moved so that one at 0 lies at this position."""
    return [(plus(place, start), name) for place, name in markers]


def _props_of(clip):
    return [prop for prop, _ in clip[1]]


def _first_value(track):
    _, formula = track[0]
    return formula[0]
