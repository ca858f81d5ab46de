"""Heads that play: how they go on, what they reach, and what becomes of them at their ends.

A head is a tuple (clip, position, rate, rounds) with the name of its clip; the clip itself is
passed beside it.
"""

from surecues.numbers import ZERO, compare, minus, over, plus, times
from surecues.ordering import between


def gone_on(head, passed):
    """The head when so much time has passed."""
    name, position, rate, rounds = head
    return name, plus(position, times(rate, passed)), rate, rounds


def is_at_end(head, clip):
    """Tells whether a head is at its end."""
    _, position, rate, _ = head
    way = compare(rate, ZERO)
    return (way > 0 and position == clip[0]) or (way < 0 and position == ZERO)


def behind_end(head, clip):
    """What becomes of a head at its end: the head in its next round, or None if it stops."""
    name, _, rate, rounds = head
    if rounds <= 0:
        return None
    start = ZERO if compare(rate, ZERO) > 0 else clip[0]
    return name, start, rate, rounds - 1


def time_to_event(head, clip):
    """The time that passes until a head that is not at its end reaches something, or None."""
    _, position, rate, _ = head
    if rate == ZERO:
        return None
    return over(minus(_next_stop(clip, position, compare(rate, ZERO)), position), rate)


def markers_reached(before, head, clip):
    """The names of the markers to which a head came from another position."""
    if before[1] == head[1]:
        return []
    return [name for position, name in clip[2] if position == head[1]]


def _next_stop(clip, position, way):
    """The next position of a marker or an end, towards the end if way is above 0."""
    length, _, markers = clip
    places = [place for place, _ in markers]
    if way > 0:
        return [*between(places, position, length), length][0]
    return [ZERO, *between(places, ZERO, position)][-1]
