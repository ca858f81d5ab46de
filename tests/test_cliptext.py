"""Promises [8], [9] and [11]: the texts of clips, written, read and refused."""

import copy
import unittest
from fractions import Fraction
from itertools import product

import clipmodel
from clipmodel import SAMPLES, clip, pair, split, track
from surecues import cliptext
from surecues.clips import greatest_value, normal, slope_at, value_at
from surecues.cliptext import format_clip, read_clip
from surecues.errors import TextError

SHAPES = {
    "line": lambda u: u,
    "in": lambda u: u * u,
    "out": lambda u: 2 * u - u * u,
    "both": lambda u: 2 * u * u if u <= Fraction(1, 2) else 1 - 2 * (1 - u) ** 2,
}


def text_of(*lines):
    return "".join(line + "\n" for line in lines)


def fault(*lines):
    """The line and what of the fault in a text of these lines, or None."""
    try:
        read_clip(text_of(*lines))
    except TextError as error:
        return error.line, error.what
    return None


def written(value):
    return str(Fraction(value))


class Writing(unittest.TestCase):
    def test_line_by_line(self):
        sample = clip({"lamp": track(Fraction(-1, 2), (2, 0, Fraction(3, 4)), (1, -4, 0)),
                       "curtain": track(7, (3, 0, 0))},
                      [(0, "go"), (Fraction(5, 2), "b"), (Fraction(5, 2), "a_1")])
        self.assertEqual(format_clip(sample), text_of(
            "clip 3", "track curtain", "piece 3 7 0 0", "track lamp", "piece 2 -1/2 0 3/4",
            "piece 1 5/2 -4 0", "mark 0 go", "mark 5/2 a_1", "mark 5/2 b"))

    def test_without_markers(self):
        self.assertEqual(format_clip(SAMPLES["level"]), "clip 4\ntrack lamp\npiece 4 5 0 0\n")

    def test_it_is_written_as_it_stands(self):
        sample = split(SAMPLES["level"], "lamp", 1, Fraction(3, 2))
        self.assertEqual(format_clip(sample), text_of(
            "clip 4", "track lamp", "piece 1 5 0 0", "piece 1/2 5 0 0", "piece 5/2 5 0 0"))

    def test_numbers_with_many_digits(self):
        sample = clip({"lamp": track(10 ** 5000, (10 ** 12, 0, 0))}, [(Fraction(1, 10 ** 10), "a")])
        self.assertEqual(format_clip(sample), text_of(
            "clip 1000000000000", "track lamp", "piece 1000000000000 1" + "0" * 5000 + " 0 0",
            "mark 1/10000000000 a"))

    def test_more_than_a_clip_has(self):
        sample = clip({f"p{at}": track(0, *[(1, step, 0) for step in range(13)]) for at in range(7)},
                      [(at, "m") for at in range(13)])
        self.assertEqual(len(format_clip(sample).splitlines()), 1 + 7 * 14 + 13)

    def test_what_is_written_is_read_back(self):
        for name, sample in SAMPLES.items():
            self.assertEqual(read_clip(format_clip(sample)), normal(sample), name)
            self.assertEqual(read_clip(format_clip(normal(sample))), normal(sample), name)


class Reading(unittest.TestCase):
    def test_pieces(self):
        found = read_clip(text_of("clip 3", "track lamp", "piece 2 -1/2 0 3/4", "piece 1 5/2 -4 0",
                                  "mark 1/2 up"))
        self.assertEqual(found, ((3, 1), (("lamp", (((2, 1), ((-1, 2), (0, 1), (3, 4))),
                                                    ((1, 1), ((5, 2), (-4, 1), (0, 1))))),),
                                 (((1, 2), "up"),)))

    def test_keys_with_each_word(self):
        for word, pieces in [("line", [(4, 3, 0)]), ("in", [(4, 0, Fraction(3, 4))]),
                             ("out", [(4, 6, Fraction(-3, 4))]),
                             ("both", [(2, 0, Fraction(3, 2)), (2, 6, Fraction(-3, 2))])]:
            for last in SHAPES:
                found = read_clip(text_of("clip 4", "track lamp", f"key 0 -5 {word}",
                                          f"key 4 7 {last}"))
                self.assertEqual(found, clip({"lamp": track(-5, *pieces)}), (word, last))

    def test_keys_go_on_by_the_word_of_the_first_one(self):
        for start, length, low, high in [(0, 1, 0, 1), (0, 4, 8, -3),
                                         (Fraction(1, 3), Fraction(5, 7), Fraction(-2, 3), 4)]:
            for word, shape in SHAPES.items():
                stop = Fraction(start) + length
                lines = ["clip " + written(stop), "track lamp"]
                if start:
                    lines.append(f"key 0 {written(low)} line")
                lines += [f"key {written(start)} {written(low)} {word}",
                          f"key {written(stop)} {written(high)} out"]
                found = read_clip(text_of(*lines))
                for step in range(17):
                    u = Fraction(step, 16)
                    expected = low + (high - low) * shape(u)
                    position = pair(start + length * u)
                    self.assertEqual(value_at(found, "lamp", position), pair(expected), word)

    def test_many_keys(self):
        places = [0, 1, Fraction(3, 2), 4, 5, 7]
        values = [2, Fraction(-1, 2), 3, 3, 9, 0]
        for words in product(SHAPES, repeat=5):
            keys = [f"key {written(place)} {written(value)} {word}"
                    for place, value, word in zip(places, values, (*words, "line"))]
            found = read_clip(text_of("clip 7", "track lamp", *keys))
            self.assertTrue(clipmodel.is_clip(found))
            self.assertTrue(clipmodel.is_normal(found))
            for at, word in enumerate(words):
                for u in (0, Fraction(1, 3), Fraction(1, 2), Fraction(4, 5), 1):
                    expected = values[at] + (values[at + 1] - values[at]) * SHAPES[word](u)
                    position = places[at] + (places[at + 1] - places[at]) * u
                    self.assertEqual(clipmodel.value(found, "lamp", position), expected, words)

    def test_what_is_read_is_normal(self):
        found = read_clip(text_of("clip 4", "track a", "piece 1 0 1 0", "piece 1 1 1 0",
                                  "piece 2 2 1 0", "track b", "key 0 0 line", "key 1 2 line",
                                  "key 4 8 line", "track c", "key 0 3 both", "key 4 3 in"))
        expected = {"a": track(0, (4, 1, 0)), "b": track(0, (4, 2, 0)), "c": track(3, (4, 0, 0))}
        self.assertEqual(found, clip(expected))

    def test_tracks_and_markers_in_any_order(self):
        tracks = ["lamp", "b", "a_2", "a10"]
        marks = ["mark 3 a", "mark 1/2 z", "mark 3 a0", "mark 1/3 zz", "mark 0 m", "mark 10/3 a"]
        lines = [line for prop in tracks for line in ("track " + prop, "piece 4 0 1 0")]
        found = read_clip(text_of("clip 4", *lines, *marks))
        self.assertEqual(clipmodel.props(found), ["a10", "a_2", "b", "lamp"])
        self.assertEqual(found[2], (((0, 1), "m"), ((1, 3), "zz"), ((1, 2), "z"), ((3, 1), "a"),
                                    ((3, 1), "a0"), ((10, 3), "a")))
        other = read_clip(text_of("clip 4", *[line for prop in reversed(tracks)
                                              for line in ("track " + prop, "piece 4 0 1 0")],
                                  *reversed(marks)))
        self.assertEqual(other, found)

    def test_with_and_without_a_newline_at_the_end(self):
        for sample in SAMPLES.values():
            text = format_clip(sample)
            self.assertEqual(read_clip(text[:-1]), read_clip(text))

    def test_markers_at_both_ends(self):
        found = read_clip(text_of("clip 4", "track a", "piece 4 0 0 0", "mark 4 z", "mark 0 z"))
        self.assertEqual(found[2], (((0, 1), "z"), ((4, 1), "z")))

    def test_nine_digits(self):
        found = read_clip(text_of("clip 999999999", "track a",
                                  "piece 999999999 -999999999/2 1/999999999 0"))
        self.assertEqual(found[0], (999999999, 1))
        self.assertEqual(found[1][0][1][0][1][1], (1, 999999999))

    def test_clips_as_great_as_they_may_be(self):
        tracks = [line for prop in "abcdef" for line in
                  ("track " + prop, *[f"piece 1 0 0 {at}" if at == 0 else
                                      f"piece 1 {at * (at - 1) // 2} {at} 0" for at in range(12)])]
        marks = [f"mark {at} m" for at in range(12)]
        found = read_clip(text_of("clip 12", *tracks, *marks))
        self.assertEqual([len(row) for _, row in found[1]], [12] * 6)
        self.assertEqual(len(found[2]), 12)

    def test_the_longest_name(self):
        for name in ["a", "z", "a23456789012", "a___________", "z0_9"]:
            found = read_clip(text_of("clip 1", "track " + name, "piece 1 0 0 0", "mark 1 " + name))
            self.assertEqual((found[1][0][0], found[2][0][1]), (name, name))


class FirstLine(unittest.TestCase):
    def test_it_is_clip_and_a_number_greater_than_0(self):
        for line in ["", " ", "clip", "clip ", "clip 4 ", " clip 4", "clip  4", "clip 4 4", "Clip 4",
                     "clip 0", "clip -1", "clip -1/2", "clip 2/4", "clip 04", "clip x", "clip 1.5",
                     "clip 1000000000", "clip 1/1000000000", "clip a b", "clips 4", "clip4", "4",
                     "track lamp", "piece 4 0 0 0", "mark 1 up", "key 0 0 line"]:
            self.assertEqual(fault(line, "nonsense"), (1, "expected clip"), line)

    def test_good_ones(self):
        for line in ["clip 1", "clip 1/2", "clip 999999999", "clip 1/999999999", "clip 7/3"]:
            self.assertEqual(fault(line), (2, "no tracks"), line)

    def test_no_line_at_all(self):
        self.assertEqual(fault(), (1, "expected clip"))

    def test_an_empty_line(self):
        self.assertEqual(fault(""), (1, "expected clip"))
        self.assertEqual(fault("", "clip 4"), (1, "expected clip"))


class NotUnderstood(unittest.TestCase):
    start = ("clip 4", "track lamp")

    def refused(self, line):
        self.assertEqual(fault(*self.start, line), (3, "not understood"), line)

    def test_other_words(self):
        for line in ["", " ", "x", "lamp", "clip 4", "clip", "tracks a", "Track a", "TRACK a", "4",
                     "pieces 4 0 0 0", "keys 0 0 line", "marks 1 up", "# track a", "track", "piece",
                     "key", "mark", "track ", "end", "line", "in", "name", "number"]:
            self.refused(line)

    def test_too_few_and_too_many_words(self):
        for line in ["track a b", "track a 4", "piece 4 0 0", "piece 4 0 0 0 0", "piece 4", "key 0 0",
                     "key 0 line", "key 0 0 0 line", "key 0 0 line line", "mark 1", "mark up",
                     "mark 1 up up", "mark 1 2 up"]:
            self.refused(line)

    def test_several_spaces(self):
        for line in ["track  a", " track a", "track a ", "piece 4 0  0 0", "piece 4 0 0 0 ",
                     " piece 4 0 0 0", "key 0 0  line", "key  0 0 line", "key 0 0 line ",
                     "mark 1  up", "mark  1 up", "mark 1 up ", " mark 1 up", "mark 1 ", "key 0  line",
                     "piece  4 0 0"]:
            self.refused(line)

    def test_words_of_the_wrong_kind(self):
        for line in ["track 4", "track -", "piece a 0 0 0", "piece 4 0 0 line", "piece 4 a 0 0",
                     "piece 4 0 x 0", "key a 0 line", "key 0 a line", "key 0 0 lines", "key 0 0 IN",
                     "key 0 0 1", "key line 0 0", "mark up 1", "mark up up", "mark 1 1",
                     "key 0 0 inout", "key 0 0 i", "key 0 0 linein"]:
            self.refused(line)

    def test_numbers_that_are_not_so_written(self):
        for number in ["2/4", "4/1", "-0", "04", "+4", "0/3", "1/0", "1/-2", "1.0", "1e1", "--1",
                       "1000000000", "1/1000000000", "-1000000000", "4/", "/4", "", "0x1", "1_0"]:
            for line in [f"piece {number} 0 0 0", f"piece 4 {number} 0 0", f"piece 4 0 {number} 0",
                         f"piece 4 0 0 {number}", f"key {number} 0 line", f"key 0 {number} line",
                         f"mark {number} up"]:
                self.refused(line)

    def test_names_that_are_none(self):
        for name in ["A", "aB", "4", "4a", "_", "_a", "a-b", "a.b", "a/b", "abcdefghijklm", "a~", "~",
                     "a23456789012x", "-a", "a!", "", "{a", "`a", "a@"]:
            self.refused("track " + name)
            self.refused("mark 1 " + name)

    def test_it_comes_ahead_of_all_others(self):
        self.assertEqual(fault("clip 4", "piece x 0 0 0"), (2, "not understood"))
        self.assertEqual(fault("clip 4", "track a", "mark 9 A"), (3, "not understood"))
        self.assertEqual(fault("clip 4", "track a", "track 1"), (3, "not understood"))


class TrackLines(unittest.TestCase):
    full = ("track a", "piece 4 0 0 0")

    def test_a_track_that_is_not_finished(self):
        for rest in [(), ("piece 3 0 0 0",), ("piece 1 0 0 0", "piece 2 0 1 0"), ("key 0 0 in",),
                     ("key 0 0 line", "key 399/100 1 line")]:
            for line in ["track b", "track a", "mark 1 up", "mark 9 up"]:
                lines = ("clip 4", "track a", *rest)
                self.assertEqual(fault(*lines, line), (len(lines) + 1, "track is not finished"))

    def test_the_second_track_is_not_finished(self):
        lines = ("clip 4", *self.full, "track b", "piece 1 0 0 0")
        for line in ["track a", "mark 1 up"]:
            self.assertEqual(fault(*lines, line), (6, "track is not finished"))

    def test_behind_a_marker(self):
        self.assertEqual(fault("clip 4", *self.full, "mark 1 up", "track b"), (5, "behind a marker"))
        self.assertEqual(fault("clip 4", "mark 1 up", "track b"), (3, "behind a marker"))

    def test_behind_a_marker_comes_ahead_of_named_twice(self):
        self.assertEqual(fault("clip 4", *self.full, "mark 1 up", "track a"), (5, "behind a marker"))

    def test_behind_a_marker_comes_ahead_of_too_many_tracks(self):
        lines = [line for prop in "abcdef" for line in ("track " + prop, "piece 4 0 0 0")]
        self.assertEqual(fault("clip 4", *lines, "mark 1 up", "track g"), (15, "behind a marker"))

    def test_named_twice(self):
        self.assertEqual(fault("clip 4", *self.full, "track a"), (4, "named twice"))
        self.assertEqual(fault("clip 4", *self.full, "track b", "piece 4 0 0 0", "track a"),
                         (6, "named twice"))

    def test_six_tracks_and_the_seventh(self):
        lines = [line for prop in "fedcba" for line in ("track " + prop, "piece 4 0 0 0")]
        self.assertIsNone(fault("clip 4", *lines))
        self.assertEqual(fault("clip 4", *lines, "track g"), (14, "too many tracks"))
        for prop in "abcdef":
            self.assertEqual(fault("clip 4", *lines, "track " + prop), (14, "named twice"))
        self.assertEqual(fault("clip 4", *lines[:-1], "track g"), (13, "track is not finished"))


class PieceLines(unittest.TestCase):
    start = ("clip 4", "track a")

    def test_outside_a_track(self):
        for line in ["piece 4 0 0 0", "piece 0 0 0 0", "piece 9 0 0 0"]:
            self.assertEqual(fault("clip 4", line), (2, "outside a track"))
            self.assertEqual(fault("clip 4", "mark 1 up", line), (3, "outside a track"))
            self.assertEqual(fault(*self.start, "piece 4 0 0 0", "mark 1 up", line),
                             (5, "outside a track"))

    def test_pieces_and_keys(self):
        for line in ["piece 3 0 0 0", "piece 0 0 0 0", "piece 9 1 0 0"]:
            self.assertEqual(fault(*self.start, "key 0 0 line", line), (4, "pieces and keys"))
            self.assertEqual(fault(*self.start, "key 0 0 line", "key 4 1 line", line),
                             (5, "pieces and keys"))

    def test_tracks_of_both_sorts_may_stand_side_by_side(self):
        keys = ("key 0 0 line", "key 4 1 line")
        self.assertIsNone(fault(*self.start, *keys, "track b", "piece 4 0 0 0", "track c", *keys))

    def test_length_not_above_0(self):
        for line in ["piece 0 0 0 0", "piece -1 0 0 0", "piece -1/9 3 0 0"]:
            self.assertEqual(fault(*self.start, line), (3, "length not above 0"))
            self.assertEqual(fault(*self.start, "piece 1 0 1 0", line), (4, "length not above 0"))

    def test_does_not_go_on(self):
        for line in ["piece 1 0 0 0", "piece 1 12 0 0", "piece 3 19/2 9 9", "piece 9 0 0 0"]:
            self.assertEqual(fault(*self.start, "piece 2 1 1/2 2", line), (4, "does not go on"))
        self.assertIsNone(fault(*self.start, "piece 2 1 1/2 2", "piece 2 10 0 0"))
        self.assertEqual(fault(*self.start, "piece 1 0 1 0", "piece 1 1 1 0", "piece 1 1 0 0"),
                         (5, "does not go on"))

    def test_each_track_begins_with_any_value(self):
        self.assertIsNone(fault(*self.start, "piece 4 0 1 0", "track b", "piece 4 77 1 0"))

    def test_beyond_the_length(self):
        self.assertEqual(fault(*self.start, "piece 9/2 0 0 0"), (3, "beyond the length"))
        self.assertEqual(fault(*self.start, "piece 4 0 0 0", "piece 1/1000 0 0 0"),
                         (4, "beyond the length"))
        self.assertEqual(fault(*self.start, "piece 4/3 0 0 0", "piece 4/3 0 0 0", "piece 401/300 0 0 0"),
                         (5, "beyond the length"))
        self.assertIsNone(fault(*self.start, "piece 4/3 0 0 0", "piece 4/3 0 0 0", "piece 4/3 0 0 0"))

    def test_twelve_pieces_and_thirteen(self):
        twelve = ["piece 1/3 0 0 0"] * 12
        self.assertIsNone(fault(*self.start, *twelve))
        self.assertEqual(fault("clip 13/3", "track a", *twelve, twelve[0]), (15, "too many pieces"))
        self.assertEqual(fault("clip 9", "track a", *twelve, twelve[0]), (15, "too many pieces"))

    def test_beyond_the_length_comes_ahead_of_too_many_pieces(self):
        twelve = ["piece 1/3 0 0 0"] * 12
        self.assertEqual(fault(*self.start, *twelve, twelve[0]), (15, "beyond the length"))

    def test_does_not_go_on_comes_ahead_of_too_many_pieces(self):
        twelve = ["piece 1/3 0 0 0"] * 12
        self.assertEqual(fault("clip 9", "track a", *twelve, "piece 1/3 1 0 0"), (15, "does not go on"))

    def test_pieces_of_other_tracks_do_not_count(self):
        twelve = ["piece 1/3 0 0 0"] * 12
        self.assertIsNone(fault(*self.start, *twelve, "track b", *twelve))


class KeyLines(unittest.TestCase):
    start = ("clip 4", "track a")

    def test_outside_a_track(self):
        for line in ["key 0 0 line", "key 9 0 line"]:
            self.assertEqual(fault("clip 4", line), (2, "outside a track"))
            self.assertEqual(fault("clip 4", "mark 1 up", line), (3, "outside a track"))
            self.assertEqual(fault(*self.start, "key 0 0 in", "key 4 0 in", "mark 1 up", line),
                             (6, "outside a track"))

    def test_pieces_and_keys(self):
        for line in ["key 0 0 line", "key 1 0 line", "key 9 0 line"]:
            self.assertEqual(fault(*self.start, "piece 1 0 0 0", line), (4, "pieces and keys"))
            self.assertEqual(fault(*self.start, "piece 4 0 0 0", line), (4, "pieces and keys"))

    def test_first_key_not_at_0(self):
        for place in ["1", "-1", "1/9", "4", "9", "-1/9"]:
            self.assertEqual(fault(*self.start, f"key {place} 0 line"), (3, "first key not at 0"))
        self.assertEqual(fault(*self.start, "key 0 0 line", "key 4 0 line", "track b", "key 4 0 line"),
                         (6, "first key not at 0"))

    def test_not_later(self):
        for place in ["2", "1", "0", "-1", "-9", "3/2", "199/100"]:
            lines = (*self.start, "key 0 0 line", "key 2 5 line")
            self.assertEqual(fault(*lines, f"key {place} 0 line"), (5, "not later"), place)
        self.assertEqual(fault(*self.start, "key 0 0 line", "key 0 0 line"), (4, "not later"))

    def test_beyond_the_length(self):
        for place in ["9", "5", "401/100"]:
            self.assertEqual(fault(*self.start, "key 0 0 line", f"key {place} 0 line"),
                             (4, "beyond the length"))
        self.assertEqual(fault(*self.start, "key 0 0 line", "key 4 0 line", "key 5 0 line"),
                         (5, "beyond the length"))

    def keys(self, *words):
        return [f"key {at} {at & 1} {word}" for at, word in enumerate(words)]

    def test_twelve_pieces_and_thirteen(self):
        words = ["line", "in", "out"] * 4
        self.assertIsNone(fault("clip 12", "track a", *self.keys(*words, "both")))
        self.assertEqual(fault("clip 13", "track a", *self.keys(*words, "in", "in")),
                         (16, "too many pieces"))
        self.assertEqual(fault("clip 20", "track a", *self.keys(*words, "in", "in")),
                         (16, "too many pieces"))

    def test_both_counts_as_two(self):
        self.assertIsNone(fault("clip 6", "track a", *self.keys(*["both"] * 7)))
        self.assertEqual(fault("clip 7", "track a", *self.keys(*["both"] * 8)), (10, "too many pieces"))
        self.assertEqual(fault("clip 9", "track a", *self.keys(*["both"] * 6, "line", "in")),
                         (10, "too many pieces"))
        self.assertIsNone(fault("clip 7", "track a", *self.keys(*["both"] * 5, "in", "out", "both")))
        self.assertEqual(fault("clip 7", "track a", *self.keys("line", *["both"] * 7)),
                         (10, "too many pieces"))
        self.assertEqual(fault("clip 12", "track a", *self.keys(*["line"] * 11, "both", "in")),
                         (15, "too many pieces"))
        self.assertIsNone(fault("clip 12", "track a", *self.keys(*["line"] * 12, "in")))

    def test_level_keys_count_too(self):
        keys = [f"key {at} 5 both" for at in range(8)]
        self.assertEqual(fault("clip 7", "track a", *keys), (10, "too many pieces"))

    def test_beyond_the_length_comes_ahead_of_too_many_pieces(self):
        self.assertEqual(fault("clip 6", "track a", *self.keys(*["both"] * 8)), (10, "beyond the length"))

    def test_not_later_comes_ahead_of_too_many_pieces(self):
        self.assertEqual(fault("clip 6", "track a", *self.keys(*["both"] * 7), "key 6 0 in"),
                         (10, "not later"))


class MarkLines(unittest.TestCase):
    start = ("clip 4", "track a", "piece 4 0 0 0")

    def test_outside_the_clip(self):
        for place in ["-1", "-1/100", "5", "401/100"]:
            self.assertEqual(fault(*self.start, f"mark {place} up"), (4, "outside the clip"))
        self.assertEqual(fault("clip 4", "mark 5 up"), (2, "outside the clip"))

    def test_marked_twice(self):
        self.assertEqual(fault(*self.start, "mark 1 up", "mark 1 up"), (5, "marked twice"))
        self.assertEqual(fault(*self.start, "mark 1 up", "mark 2 up", "mark 1 a", "mark 1 up"),
                         (7, "marked twice"))
        self.assertIsNone(fault(*self.start, "mark 1 up", "mark 2 up", "mark 1 a", "mark 2 a"))

    def test_twelve_markers_and_thirteen(self):
        twelve = [f"mark {at}/7 m" for at in range(1, 7)] + [f"mark 4 m{at}" for at in range(6)]
        self.assertIsNone(fault(*self.start, *twelve))
        self.assertEqual(fault(*self.start, *twelve, "mark 0 m"), (16, "too many markers"))
        self.assertEqual(fault(*self.start, *twelve, "mark 4 m3"), (16, "marked twice"))
        self.assertEqual(fault(*self.start, *twelve, "mark 5 m"), (16, "outside the clip"))


class EndOfText(unittest.TestCase):
    def test_no_tracks(self):
        self.assertEqual(fault("clip 4"), (2, "no tracks"))
        self.assertEqual(fault("clip 4", "mark 1 up", "mark 2 up"), (4, "no tracks"))
        with self.assertRaises(TextError) as caught:
            read_clip("clip 4")
        self.assertEqual((caught.exception.line, caught.exception.what), (2, "no tracks"))

    def test_track_is_not_finished(self):
        for rest in [("track a",), ("track a", "piece 3 0 0 0"), ("track a", "key 0 0 in"),
                     ("track a", "key 0 0 in", "key 3 0 in"),
                     ("track a", "piece 4 0 0 0", "track b"),
                     ("track a", "piece 4 0 0 0", "track b", "piece 2 0 0 0")]:
            expected = len(rest) + 2, "track is not finished"
            self.assertEqual(fault("clip 4", *rest), expected)
            with self.assertRaises(TextError) as caught:
                read_clip("\n".join(["clip 4", *rest]))
            self.assertEqual((caught.exception.line, caught.exception.what), expected)

    def test_an_empty_line_at_the_end_is_a_line(self):
        self.assertEqual(fault("clip 4", "track a", "piece 4 0 0 0", ""), (4, "not understood"))
        self.assertEqual(fault("clip 4", ""), (2, "not understood"))


def told(line):
    """The words of a line of the texts below, with fractions for the numbers."""
    word, *rest = line.split()
    return word, [Fraction(part) if part[0] in "-0123456789" else part for part in rest]


def last_track(earlier):
    """The lines behind the last line `track`, or None if there is none or a marker follows."""
    found = None
    for word, rest in earlier:
        if word == "track":
            found = []
        elif word == "mark":
            found = None
        elif found is not None:
            found.append((word, rest))
    return found


def reach(rows):
    """How far the lines of a track reach."""
    keys = [rest[0] for word, rest in rows if word == "key"]
    return max(keys, default=sum(rest[0] for word, rest in rows if word == "piece"))


def end(rest):
    length, a, b, c = rest
    return a + b * length + c * length ** 2


def faults_of(earlier, line, length):
    """All rows of the table that apply to a line, in the order of the table."""
    word, rest = line
    rows = last_track(earlier)
    same = [old for name, old in earlier if name == word]
    marked = any(name == "mark" for name, _ in earlier)
    if word in ("track", "mark"):
        if rows is not None and reach(rows) != length:
            yield "track is not finished"
    if word == "track":
        if marked:
            yield "behind a marker"
        if rest in same:
            yield "named twice"
    elif word == "mark":
        if not 0 <= rest[0] <= length:
            yield "outside the clip"
        if rest in same:
            yield "marked twice"
    elif rows is None:
        yield "outside a track"
    else:
        yield from faults_in_track(rows, line, length)


def faults_in_track(rows, line, length):
    word, rest = line
    own = [old for name, old in rows if name == word]
    if len(own) != len(rows):
        yield "pieces and keys"
    if word == "piece":
        if rest[0] <= 0:
            yield "length not above 0"
        if own and end(own[-1]) != rest[1]:
            yield "does not go on"
        if reach(rows) + rest[0] > length:
            yield "beyond the length"
    else:
        if not own and rest[0] != 0:
            yield "first key not at 0"
        if own and rest[0] <= own[-1][0]:
            yield "not later"
        if rest[0] > length:
            yield "beyond the length"


def expected_fault(lines):
    """The fault of a text of these lines behind `clip 2`, told in another way."""
    earlier = []
    for at, line in enumerate(lines, start=2):
        found = next(faults_of(earlier, told(line), 2), None)
        if found is not None:
            return at, found
        earlier.append(told(line))
    rows = last_track(earlier)
    if rows is not None and reach(rows) != 2:
        return len(lines) + 2, "track is not finished"
    if not any(word == "track" for word, _ in earlier):
        return len(lines) + 2, "no tracks"
    return None


class AllShortTexts(unittest.TestCase):
    def compare(self, lines, repeat, start=()):
        for chosen in product(lines, repeat=repeat):
            text = (*start, *chosen)
            self.assertEqual(fault("clip 2", *text), expected_fault(text), text)

    def test_pieces_and_markers(self):
        lines = ["track a", "track b", "piece 2 0 0 0", "piece 1 0 1 0", "piece 1 1 0 0",
                 "piece 3 0 0 0", "mark 1 a", "mark 3 a"]
        for repeat in range(5):
            self.compare(lines, repeat)

    def test_pieces_and_keys(self):
        lines = ["piece 1 0 1 0", "piece 0 0 0 0", "piece -1 1 0 0", "key 0 0 in", "key 1 0 both",
                 "key 2 1 out", "key 3 0 line", "mark 0 a", "track b"]
        for repeat in range(4):
            self.compare(lines, repeat, ("track a",))


class Interface(unittest.TestCase):
    def test_the_examples_of_the_document(self):
        c = read_clip("clip 4\ntrack lamp\nkey 0 0 in\nkey 2 8 line\nkey 4 0 line\nmark 1 up\n")
        self.assertEqual(c, ((4, 1), (("lamp", (((2, 1), ((0, 1), (0, 1), (2, 1))),
                                                ((2, 1), ((8, 1), (-4, 1), (0, 1))))),),
                             (((1, 1), "up"),)))
        found = value_at(c, "lamp", (1, 1)), slope_at(c, "lamp", (2, 1))
        self.assertEqual(found, ((2, 1), (-4, 1)))
        self.assertEqual(slope_at(c, "lamp", (2, 1), back=True), (8, 1))
        self.assertEqual(greatest_value(c, "lamp", (1, 1), (7, 2)), (8, 1))
        self.assertEqual(format_clip(c),
                         "clip 4\ntrack lamp\npiece 2 0 0 2\npiece 2 8 -4 0\nmark 1 up\n")

    def test_arguments_are_not_changed(self):
        for sample in SAMPLES.values():
            before = copy.deepcopy(sample)
            format_clip(sample)
            self.assertEqual(sample, before)

    def test_the_names_of_the_arguments(self):
        text = format_clip(clip=SAMPLES["level"])
        self.assertEqual(read_clip(text=text), SAMPLES["level"])

    def test_both_are_defined_in_this_file(self):
        for function in [format_clip, read_clip]:
            self.assertEqual(function.__module__, cliptext.__name__)


if __name__ == "__main__":
    unittest.main()
