"""What shows have at numbers ahead of, inside and behind their clips.

A show is a tuple (name, clip, prop, cue).
"""

from surecues.clips import greatest_value, least_value, value_at
from surecues.numbers import ZERO, compare
from surecues.ordering import ascending, between
from surecues.tracks import bounds, normal_track, track_of, turns


def show_named(shows, name):
    """The show with this name, or None."""
    for show in shows:
        if show[0] == name:
            return show
    return None


def shown_at(show, place):
    """The value that a show has at any number."""
    _, clip, prop, _ = show
    return value_at(clip, prop, _position(clip, place))


def extremes_of(show, span):
    """The least and the greatest value that a show has at the numbers of a span."""
    _, clip, prop, _ = show
    first, second = [_position(clip, place) for place in span]
    return least_value(clip, prop, first, second), greatest_value(clip, prop, first, second)


def points_of(show, span):
    """The ends of a span, and between them all numbers at which the show may turn, in order."""
    _, clip, prop, _ = show
    track = normal_track(track_of(clip, prop))
    first, second = span
    inside = between(ascending(bounds(track) + turns(track)), first, second)
    return [first, *inside, second]


def _position(clip, place):
    """The position of the clip at which a show is at a number."""
    if compare(place, ZERO) < 0:
        return ZERO
    return clip[0] if compare(place, clip[0]) > 0 else place
