"""Clips of which some lines are read: what each further line adds, and what is wrong with it.

Each take_.. returns what is wrong, or None; if something is wrong, nothing is added.
"""

from surecues.limits import MARKERS, PIECES, TRACKS
from surecues.numbers import TWO, ZERO, compare, minus, negative, over, plus, times
from surecues.ordering import is_within
from surecues.tracks import end_value


class TrackDraft:
    """A track of a clip of this length, as far as it is read."""

    def __init__(self, prop, length):
        self.prop = prop
        self.length = length
        self.reached = ZERO
        self.pieces = []
        self.last_key = None

    def is_finished(self):
        """Tells whether the track reaches the length of the clip."""
        return self.reached == self.length

    def take_piece(self, length, formula):
        """Adds a piece."""
        if self.last_key is not None:
            return "pieces and keys"
        if compare(length, ZERO) <= 0:
            return "length not above 0"
        if self.pieces and end_value(self.pieces[-1]) != formula[0]:
            return "does not go on"
        return self._take_pieces([(length, formula)], plus(self.reached, length))

    def take_key(self, key):
        """Adds a key, a triple (position, value, word)."""
        if self.last_key is None:
            return self._take_first_key(key)
        if compare(key[0], self.last_key[0]) <= 0:
            return "not later"
        what = self._take_pieces(pieces_between(self.last_key, key), key[0])
        if what is None:
            self.last_key = key
        return what

    def _take_first_key(self, key):
        if self.pieces:
            return "pieces and keys"
        if key[0] != ZERO:
            return "first key not at 0"
        self.last_key = key
        return None

    def _take_pieces(self, pieces, reached):
        """Adds pieces with which the track reaches this position."""
        if compare(reached, self.length) > 0:
            return "beyond the length"
        if len(self.pieces) + len(pieces) > PIECES:
            return "too many pieces"
        self.pieces.extend(pieces)
        self.reached = reached
        return None


class ClipDraft:
    """A clip of this length, as far as it is read."""

    def __init__(self, length):
        self.length = length
        self.tracks = []
        self.markers = []

    def take_track(self, prop):
        """Adds a track without pieces."""
        if self._has_open_track():
            return "track is not finished"
        if self.markers:
            return "behind a marker"
        if prop in [track.prop for track in self.tracks]:
            return "named twice"
        if len(self.tracks) >= TRACKS:
            return "too many tracks"
        self.tracks.append(TrackDraft(prop, self.length))
        return None

    def take_piece(self, length, a, b, c):
        """Adds a piece to the last track."""
        if self._is_between_tracks():
            return "outside a track"
        return self.tracks[-1].take_piece(length, (a, b, c))

    def take_key(self, position, value, word):
        """Adds a key to the last track."""
        if self._is_between_tracks():
            return "outside a track"
        return self.tracks[-1].take_key((position, value, word))

    def take_marker(self, position, name):
        """Adds a marker."""
        if self._has_open_track():
            return "track is not finished"
        if not is_within(position, ZERO, self.length):
            return "outside the clip"
        if (position, name) in self.markers:
            return "marked twice"
        if len(self.markers) >= MARKERS:
            return "too many markers"
        self.markers.append((position, name))
        return None

    def fault_at_end(self):
        """What is wrong if no line follows, or None."""
        if self._has_open_track():
            return "track is not finished"
        if not self.tracks:
            return "no tracks"
        return None

    def _has_open_track(self):
        # A track with another one behind it is finished, or that one would not have been taken.
        return len(self.tracks) > 0 and not self.tracks[-1].is_finished()

    def _is_between_tracks(self):
        return len(self.tracks) == 0 or len(self.markers) > 0


def pieces_between(first, second):
    """The pieces that lead from a key to the next one."""
    start, low, word = first
    stop, high, _ = second
    length = minus(stop, start)
    slope = over(minus(high, low), length)
    bend = over(slope, length)
    if word == "line":
        return [(length, (low, slope, ZERO))]
    if word == "in":
        return [(length, (low, ZERO, bend))]
    if word == "out":
        return [(length, (low, times(TWO, slope), negative(bend)))]
    half = over(length, TWO)
    middle = over(plus(low, high), TWO)
    bend = times(TWO, bend)
    return [(half, (low, ZERO, bend)), (half, (middle, times(TWO, slope), negative(bend)))]
