"""What a clip has at its positions, and its normal form."""

from surecues.ordering import ascending, between
from surecues.tracks import bounds, find_place, normal_track, slope_of, track_of, turns, value_of


def value_at(clip, prop, position):
    """The value of a property at a position."""
    formula, place = find_place(track_of(clip, prop), position, False)
    return value_of(formula, place)


def slope_at(clip, prop, position, *, back=False):
    """The slope of a property at a position, towards the end, or with back towards the beginning."""
    formula, place = find_place(track_of(clip, prop), position, back)
    return slope_of(formula, place)


def least_value(clip, prop, first, second):
    """The least value of a property from the first to the second position."""
    return _extreme_values(clip, prop, first, second)[0]


def greatest_value(clip, prop, first, second):
    """The greatest value of a property from the first to the second position."""
    return _extreme_values(clip, prop, first, second)[-1]


def normal(clip):
    """The normal form of a clip."""
    length, tracks, markers = clip
    return length, tuple([(prop, normal_track(track)) for prop, track in tracks]), markers


def _extreme_values(clip, prop, first, second):
    """Values from the first to the second position in order, the least and the greatest among them.

    Between two positions the value goes back only where pieces meet or a slope is 0.
    """
    track = track_of(clip, prop)
    positions = [first, *between(bounds(track) + turns(track), first, second), second]
    return ascending([value_at(clip, prop, position) for position in positions])
