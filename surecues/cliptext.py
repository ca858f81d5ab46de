"""Texts of clips: written line by line, and read up to the first fault."""

from surecues.clips import normal
from surecues.drafts import ClipDraft
from surecues.errors import TextError
from surecues.numbers import ZERO, compare, format_number, read_number
from surecues.ordering import markers_in_order

# What stands behind the first word of each line but the first one.
PARTS = {
    "track": ("name",),
    "piece": ("number", "number", "number", "number"),
    "key": ("number", "number", "key word"),
    "mark": ("number", "name"),
}
KEY_WORDS = ("line", "in", "out", "both")
LETTERS = "abcdefghijklmnopqrstuvwxyz"
NAME_CHARACTERS = "abcdefghijklmnopqrstuvwxyz0123456789_"
LONGEST_NAME = 12


def format_clip(clip):
    """The text of a clip, as it stands."""
    length, tracks, markers = clip
    rows = [["clip", format_number(length)]]
    for prop, track in tracks:
        rows.append(["track", prop])
        for extent, formula in track:
            rows.append(["piece", *[format_number(value) for value in (extent, *formula)]])
    for position, name in markers:
        rows.append(["mark", format_number(position), name])
    return "".join([" ".join(row) + "\n" for row in rows])


def read_clip(text):
    """The clip that a text tells, in normal form."""
    lines = _lines_of(text)
    length = _read_length(lines[0]) if lines else None
    if length is None:
        raise TextError(1, "expected clip")
    draft = ClipDraft(length)
    for at, line in enumerate(lines[1:], start=2):
        what = _take_line(draft, line)
        if what is not None:
            raise TextError(at, what)
    what = draft.fault_at_end()
    if what is not None:
        raise TextError(len(lines) + 1, what)
    return _clip_of(draft)


def _lines_of(text):
    lines = text.split("\n")
    if lines[-1] == "":
        lines.pop()
    return lines


def _read_length(line):
    """The length that the first line tells, or None if it is not as it has to be."""
    words = line.split(" ")
    if len(words) != 2 or words[0] != "clip":
        return None
    length = read_number(words[1])
    if length is None or compare(length, ZERO) <= 0:
        return None
    return length


def _take_line(draft, line):
    """Adds a line to a clip; returns what is wrong with it, or None."""
    first, *rest = line.split(" ")
    parts = PARTS.get(first)
    if parts is None or len(parts) != len(rest):
        return "not understood"
    told = [_read_part(part, word) for part, word in zip(parts, rest)]
    if None in told:
        return "not understood"
    if first == "track":
        return draft.take_track(*told)
    if first == "piece":
        return draft.take_piece(*told)
    if first == "key":
        return draft.take_key(*told)
    return draft.take_marker(*told)


def _read_part(part, word):
    """What a word tells as this part of a line, or None if it is no such part."""
    if part == "number":
        return read_number(word)
    is_told = _is_name(word) if part == "name" else word in KEY_WORDS
    return word if is_told else None


def _is_name(word):
    if not 1 <= len(word) <= LONGEST_NAME or word[0] not in LETTERS:
        return False
    return all([character in NAME_CHARACTERS for character in word])


def _clip_of(draft):
    """The clip whose lines are all read, in normal form."""
    rows = sorted(draft.tracks, key=lambda track: track.prop)
    tracks = tuple([(row.prop, tuple(row.pieces)) for row in rows])
    return normal((draft.length, tracks, markers_in_order(draft.markers)))
