"""Promises [10] and [11]: clips that are made from others, and those that are refused."""

import copy
import unittest
from fractions import Fraction
from itertools import combinations, product

import clipmodel
from clipmodel import EASE, HILL, LEVEL, PARTED, SAMPLES, STEPS, clip, grid, pair, split, track, value
from surecues import newclips
from surecues.clips import normal
from surecues.errors import ClipError
from surecues.newclips import cut, joined, mixed, reversed_clip, stretched

FACTORS = [Fraction(1), Fraction(2), Fraction(1, 2), Fraction(7, 3), Fraction(1, 1000)]
WEIGHTS = [Fraction(0), Fraction(1), Fraction(1, 2), Fraction(2, 7), Fraction(-1), Fraction(-3, 2),
           Fraction(2), Fraction(13, 5)]
# Clips with the same length and the same properties.
ALIKE = [clip({"a": HILL, "b": STEPS}, [(1, "m"), (4, "z")]),
         clip({"a": PARTED, "b": EASE}, [(1, "m"), (1, "l"), (Fraction(5, 2), "z")]),
         clip({"a": LEVEL, "b": LEVEL}),
         clip({"a": EASE, "b": HILL}, [(0, "m"), (4, "z"), (4, "y")]),
         clip({"a": HILL, "b": track(0, (4, 4, -1))}, [(1, "n")])]
SPLIT = split(SAMPLES["hill"], "lamp", 1, Fraction(5, 2), 3)


def zigzag(count, length=1, start=0):
    """A normal track with so many pieces, which goes up and down."""
    return track(start, *[(length, (-1) ** step * (1 + step // 2), 0) for step in range(count)])


def many_markers(count, name="m"):
    return [(Fraction(at, 100), name) for at in range(count)]


class NewClips(unittest.TestCase):
    def refused(self, what, function, *arguments):
        with self.assertRaises(ClipError) as caught:
            function(*arguments)
        self.assertEqual(caught.exception.what, what)

    def good(self, found):
        self.assertTrue(clipmodel.is_clip(found))
        self.assertTrue(clipmodel.is_normal(found))


class Reversed(NewClips):
    def test_a_certain_clip(self):
        found = reversed_clip(clip({"lamp": track(0, (1, 0, 2), (2, -1, 0))}, [(0, "b"), (0, "a"),
                                                                              (Fraction(1, 2), "c")]))
        self.assertEqual(found, clip({"lamp": track(0, (2, 1, 0), (1, -4, 2))},
                                     [(3, "a"), (3, "b"), (Fraction(5, 2), "c")]))

    def test_values_and_markers(self):
        for sample in SAMPLES.values():
            found = reversed_clip(sample)
            self.good(found)
            length = Fraction(*sample[0])
            self.assertEqual(found[0], sample[0])
            self.assertEqual(clipmodel.props(found), clipmodel.props(sample))
            for prop in clipmodel.props(sample):
                for place in grid(sample):
                    self.assertEqual(value(found, prop, place), value(sample, prop, length - place))
            self.assertEqual(clipmodel.markers(found),
                             {(length - place, name) for place, name in clipmodel.markers(sample)})

    def test_reversed_twice(self):
        for sample in SAMPLES.values():
            self.assertEqual(reversed_clip(reversed_clip(sample)), normal(sample))

    def test_pieces_that_could_be_one(self):
        self.assertEqual(reversed_clip(SPLIT), reversed_clip(SAMPLES["hill"]))
        self.assertEqual(len(reversed_clip(SPLIT)[1][0][1]), 1)


class Stretched(NewClips):
    def test_a_certain_clip(self):
        sample = clip({"lamp": track(0, (1, 0, 2), (2, -1, 0))}, [(1, "a"), (3, "b")])
        self.assertEqual(stretched(sample, (2, 1)),
                         clip({"lamp": track(0, (2, 0, Fraction(1, 2)), (4, Fraction(-1, 2), 0))},
                              [(2, "a"), (6, "b")]))
        self.assertEqual(stretched(sample, (1, 2)),
                         clip({"lamp": track(0, (Fraction(1, 2), 0, 8), (1, -2, 0))},
                              [(Fraction(1, 2), "a"), (Fraction(3, 2), "b")]))

    def test_values_and_markers(self):
        for sample, factor in product(SAMPLES.values(), FACTORS):
            found = stretched(sample, pair(factor))
            self.good(found)
            self.assertEqual(found[0], pair(Fraction(*sample[0]) * factor))
            for prop in clipmodel.props(sample):
                for place in grid(sample):
                    self.assertEqual(value(found, prop, place * factor), value(sample, prop, place))
            self.assertEqual(clipmodel.markers(found),
                             {(place * factor, name) for place, name in clipmodel.markers(sample)})

    def test_by_1(self):
        for sample in SAMPLES.values():
            self.assertEqual(stretched(sample, (1, 1)), normal(sample))

    def test_by_two_factors(self):
        for sample, first, second in product(SAMPLES.values(), FACTORS, FACTORS):
            found = stretched(stretched(sample, pair(first)), pair(second))
            self.assertEqual(found, stretched(sample, pair(first * second)))

    def test_factors_that_are_not_above_0(self):
        for factor in [(0, 1), (-1, 1), (-1, 1000), (-7, 3)]:
            self.refused("factor not above 0", stretched, SAMPLES["hill"], factor)

    def test_the_factor_comes_ahead_of_all_others(self):
        self.refused("factor not above 0", stretched, clip({"a": zigzag(13)}), (0, 1))
        self.refused("too many pieces", stretched, clip({"a": zigzag(13)}), (1, 2))


class Cut(NewClips):
    def test_certain_cuts(self):
        sample = clip({"lamp": track(0, (2, 0, 2), (2, -4, 0))},
                      [(0, "a"), (1, "b"), (2, "c"), (3, "d"), (3, "e"), (4, "f")])
        self.assertEqual(cut(sample, (1, 1), (3, 1)),
                         clip({"lamp": track(2, (1, 4, 2), (1, -4, 0))},
                              [(0, "b"), (1, "c"), (2, "d"), (2, "e")]))
        self.assertEqual(cut(sample, (1, 2), (3, 2)),
                         clip({"lamp": track(Fraction(1, 2), (1, 2, 2))}, [(Fraction(1, 2), "b")]))
        self.assertEqual(cut(sample, (2, 1), (4, 1)),
                         clip({"lamp": track(8, (2, -4, 0))},
                              [(0, "c"), (1, "d"), (1, "e"), (2, "f")]))
        self.assertEqual(cut(sample, (0, 1), (2, 1)),
                         clip({"lamp": track(0, (2, 0, 2))}, [(0, "a"), (1, "b"), (2, "c")]))

    def test_values_and_markers(self):
        for sample in SAMPLES.values():
            for first, second in combinations(grid(sample, 7), 2):
                found = cut(sample, pair(first), pair(second))
                self.good(found)
                self.assertEqual(found[0], pair(second - first))
                for prop in clipmodel.props(sample):
                    for place in grid(found, 6):
                        self.assertEqual(value(found, prop, place), value(sample, prop, place + first))
                self.assertEqual(clipmodel.markers(found),
                                 {(place - first, name) for place, name in clipmodel.markers(sample)
                                  if first <= place <= second})

    def test_the_whole_clip(self):
        for sample in SAMPLES.values():
            self.assertEqual(cut(sample, (0, 1), sample[0]), normal(sample))

    def test_a_cut_of_a_cut(self):
        sample = SAMPLES["many"]
        found = cut(cut(sample, (1, 2), (7, 2)), (1, 3), (2, 1))
        self.assertEqual(found, cut(sample, (5, 6), (5, 2)))

    def test_empty_cuts(self):
        sample = SAMPLES["hill"]
        for first, second in [((1, 1), (1, 1)), ((2, 1), (1, 1)), ((0, 1), (0, 1)), ((4, 1), (4, 1)),
                              ((1, 2), (1, 3)), ((0, 1), (-1, 1)), ((-1, 1), (-2, 1)),
                              ((9, 1), (8, 1)), ((5, 1), (4, 1)), ((-1, 1), (-1, 1))]:
            self.refused("empty cut", cut, sample, first, second)

    def test_cuts_outside_the_clip(self):
        sample = SAMPLES["hill"]
        for first, second in [((-1, 1), (1, 1)), ((0, 1), (5, 1)), ((-1, 100), (4, 1)),
                              ((0, 1), (401, 100)), ((-2, 1), (-1, 1)), ((5, 1), (6, 1)),
                              ((-1, 1), (9, 1)), ((4, 1), (5, 1)), ((-1, 1), (0, 1))]:
            self.refused("outside the clip", cut, sample, first, second)

    def test_the_order_of_the_faults(self):
        great = clip({"a": zigzag(14)}, many_markers(14))
        self.refused("empty cut", cut, great, (20, 1), (19, 1))
        self.refused("outside the clip", cut, great, (0, 1), (15, 1))
        self.refused("too many pieces", cut, great, (0, 1), (14, 1))
        self.refused("too many markers", cut, great, (0, 1), (12, 1))
        self.assertEqual(len(cut(great, (1, 50), (12, 1))[2]), 12)
        self.assertEqual(len(cut(great, (1, 1), (13, 1))[1][0][1]), 12)
        self.refused("too many pieces", cut, great, (1, 1), (1301, 100))


class Joined(NewClips):
    def test_certain_clips(self):
        first = clip({"lamp": track(0, (2, 0, 2))}, [(0, "a"), (2, "b"), (2, "c")])
        second = clip({"lamp": track(8, (1, 8, 2), (1, 0, 0))}, [(0, "b"), (0, "d"), (1, "a")])
        self.assertEqual(joined(first, second),
                         clip({"lamp": track(0, (3, 0, 2), (1, 0, 0))},
                              [(0, "a"), (2, "b"), (2, "c"), (2, "d"), (3, "a")]))

    def test_values_and_markers(self):
        for sample in SAMPLES.values():
            pairs = [(sample, reversed_clip(sample)), (reversed_clip(sample), sample)]
            for first, second in pairs:
                found = joined(first, second)
                self.good(found)
                middle = Fraction(*first[0])
                self.assertEqual(found[0], pair(middle * 2))
                for prop in clipmodel.props(sample):
                    for place in grid(first):
                        self.assertEqual(value(found, prop, place), value(first, prop, place))
                    for place in grid(second):
                        self.assertEqual(value(found, prop, middle + place), value(second, prop, place))
                shown = {(place + middle, name) for place, name in clipmodel.markers(second)}
                self.assertEqual(clipmodel.markers(found), clipmodel.markers(first) | shown)

    def test_two_cuts_joined_again(self):
        for sample in SAMPLES.values():
            for place in grid(sample)[1:-1]:
                middle = pair(place)
                found = joined(cut(sample, (0, 1), middle), cut(sample, middle, sample[0]))
                self.assertEqual(found, normal(sample))

    def test_clips_that_do_not_go_on(self):
        first = clip({"a": track(0, (1, 1, 0)), "b": track(0, (1, 2, 1))})
        good = clip({"a": track(1, (2, 1, 0)), "b": track(3, (2, 0, 5))})
        self.good(joined(first, good))
        for a, b in [(0, 3), (1, 2), (2, 3), (Fraction(99, 100), 3), (1, 0), (3, 1)]:
            second = clip({"a": track(a, (2, 1, 0)), "b": track(b, (2, 0, 5))})
            self.refused("does not go on", joined, first, second)
        self.refused("does not go on", joined, good, first)

    def test_other_properties(self):
        first = clip({"a": LEVEL, "b": LEVEL})
        for props in [["a"], ["b"], ["a", "c"], ["a", "b", "c"], ["b", "c"], ["c"]]:
            second = clip({prop: LEVEL for prop in props})
            self.refused("other properties", joined, first, second)
            self.refused("other properties", joined, second, first)

    def test_twelve_pieces_and_thirteen(self):
        first = clip({"a": zigzag(6), "b": zigzag(5, Fraction(6, 5))})
        ends = value(first, "a", 6), value(first, "b", 6)
        second = clip({"a": zigzag(6, 7, ends[0]), "b": zigzag(7, 6, ends[1])})
        found = joined(first, second)
        self.assertEqual([len(row) for _, row in found[1]], [12, 12])
        for a, b in [(7, 6), (6, 8)]:
            second = clip({"a": zigzag(a, Fraction(1, a), ends[0]), "b": zigzag(b, Fraction(1, b), ends[1])})
            self.refused("too many pieces", joined, first, second)

    def test_pieces_are_counted_in_the_normal_form(self):
        line = clip({"a": track(0, *[(1, 2, 0)] * 12)})
        on = clip({"a": track(24, *[(1, 2, 0)] * 12)})
        self.assertEqual(joined(line, on), clip({"a": track(0, (24, 2, 0))}))
        # Where the two meet, two pieces become one: 6 and 7 pieces are 12.
        up = clip({"a": track(0, *[(1, at, 0) for at in range(6)])})
        further = clip({"a": track(15, *[(1, at, 0) for at in range(5, 12)])})
        found = joined(up, further)
        self.assertEqual([len(found[1][0][1]), found[0]], [12, (13, 1)])
        self.refused("too many pieces", joined, up,
                     clip({"a": track(15, *[(1, at, 0) for at in range(6, 13)])}))

    def test_twelve_markers_and_thirteen(self):
        level = {"a": LEVEL}
        first = clip(level, [(at, "m") for at in range(5)] + [(4, "n")])
        six = [(0, name) for name in "opqrst"]
        self.assertEqual(len(joined(first, clip(level, six))[2]), 12)
        self.refused("too many markers", joined, first, clip(level, [*six, (1, "o")]))
        self.assertEqual(len(joined(first, clip(level, [*six, (0, "m"), (0, "n")]))[2]), 12)

    def test_the_order_of_the_faults(self):
        marks = many_markers(12)
        first = clip({"a": zigzag(12)}, marks)
        end = value(first, "a", 12)
        goes_on = clip({"a": track(end, (1, 9, 0))}, [(1, "m")])
        does_not = clip({"a": track(end + 1, (1, 9, 0))}, [(1, "m")])
        other = clip({"b": track(end + 1, (1, 9, 0))}, [(1, "m")])
        self.refused("other properties", joined, first, other)
        self.refused("does not go on", joined, first, does_not)
        self.refused("too many pieces", joined, first, goes_on)
        self.refused("too many markers", joined, clip({"a": track(end, (1, 9, 0))}, marks),
                     clip({"a": track(end + 9, (1, 9, 0))}, [(1, "m")]))


class Mixed(NewClips):
    def test_certain_clips(self):
        first = clip({"lamp": track(0, (4, 4, -1))}, [(1, "a"), (2, "b")])
        second = clip({"lamp": track(8, (3, 0, 0), (1, -4, 0))}, [(1, "a"), (2, "a"), (1, "b")])
        self.assertEqual(mixed(first, second, (1, 4)),
                         clip({"lamp": track(2, (3, 3, Fraction(-3, 4)),
                                             (1, Fraction(-5, 2), Fraction(-3, 4)))},
                              [(1, "a"), (1, "b"), (2, "a"), (2, "b")]))

    def test_values_and_markers(self):
        for first, second in product(ALIKE, ALIKE):
            places = sorted({*grid(first), *grid(second)})
            for weight in WEIGHTS:
                found = mixed(first, second, pair(weight))
                self.good(found)
                self.assertEqual(found[0], first[0])
                self.assertEqual(clipmodel.props(found), ["a", "b"])
                for prop, place in product("ab", places):
                    expected = ((1 - weight) * value(first, prop, place)
                                + weight * value(second, prop, place))
                    self.assertEqual(value(found, prop, place), expected)
                self.assertEqual(clipmodel.markers(found),
                                 clipmodel.markers(first) | clipmodel.markers(second))

    def test_the_weights_0_and_1(self):
        for first, second in product(ALIKE, ALIKE):
            self.assertEqual(mixed(first, second, (0, 1))[1], normal(first)[1])
            self.assertEqual(mixed(first, second, (1, 1))[1], normal(second)[1])

    def test_the_order_of_two_clips(self):
        for first, second in product(ALIKE, ALIKE):
            for weight in WEIGHTS:
                self.assertEqual(mixed(first, second, pair(weight)),
                                 mixed(second, first, pair(1 - weight)))

    def test_a_clip_with_itself(self):
        for sample, weight in product(SAMPLES.values(), WEIGHTS):
            self.assertEqual(mixed(sample, sample, pair(weight)), normal(sample))
            length = Fraction(*sample[0])
            parted = split(sample, "lamp", length / 9, length * 2 / 3)
            self.assertEqual(mixed(sample, parted, pair(weight)), normal(sample))

    def test_other_properties(self):
        for props in [["a"], ["b"], ["a", "c"], ["a", "b", "c"]]:
            second = clip({prop: LEVEL for prop in props})
            self.refused("other properties", mixed, ALIKE[0], second, (1, 2))
            self.refused("other properties", mixed, second, ALIKE[0], (1, 2))

    def test_other_length(self):
        for factor in [(1, 2), (2, 1), (1001, 1000)]:
            self.refused("other length", mixed, ALIKE[0], stretched(ALIKE[1], factor), (1, 2))

    def test_twelve_pieces_and_thirteen(self):
        first = clip({"a": zigzag(6, 7)})
        second = clip({"a": zigzag(7, 6)})
        self.assertEqual(len(mixed(first, second, (1, 2))[1][0][1]), 12)
        self.refused("too many pieces", mixed, clip({"a": zigzag(7, 8)}), clip({"a": zigzag(8, 7)}),
                     (1, 2))

    def test_pieces_are_counted_in_the_normal_form(self):
        first, second = clip({"a": zigzag(7, 8)}), clip({"a": zigzag(8, 7)})
        self.assertEqual(mixed(first, second, (0, 1)), first)
        self.assertEqual(mixed(first, second, (1, 1)), second)
        parted = clip({"a": track(0, *[(7, 3, 0)] * 8)})
        self.assertEqual(len(mixed(first, parted, (1, 2))[1][0][1]), 7)
        # One goes up where the other one goes down: the half of both is level.
        rising = clip({"a": zigzag(12)})
        falling = clip({"a": tuple((length, tuple((-top, bottom) for top, bottom in formula))
                                   for length, formula in rising[1][0][1])})
        self.assertEqual(mixed(rising, falling, (1, 2)), clip({"a": track(0, (12, 0, 0))}))

    def test_twelve_markers_and_thirteen(self):
        first = clip({"a": LEVEL}, many_markers(8))
        self.assertEqual(len(mixed(first, clip({"a": LEVEL}, many_markers(4, "n")), (1, 2))[2]), 12)
        self.assertEqual(len(mixed(first, clip({"a": LEVEL}, many_markers(12)), (1, 2))[2]), 12)
        for weight in [(0, 1), (1, 1), (1, 2)]:
            self.refused("too many markers", mixed, first, clip({"a": LEVEL}, many_markers(5, "n")),
                         weight)

    def test_the_order_of_the_faults(self):
        great = clip({"a": zigzag(12)}, many_markers(12))
        self.refused("other properties", mixed, great, clip({"b": zigzag(13)}, many_markers(9, "n")),
                     (1, 2))
        self.refused("other length", mixed, great, clip({"a": zigzag(13)}, many_markers(9, "n")), (1, 2))
        second = clip({"a": zigzag(8, Fraction(3, 2))}, many_markers(9, "n"))
        self.refused("too many pieces", mixed, great, second, (1, 2))
        self.refused("too many markers", mixed, great, second, (0, 1))


class MoreThanAClipHas(NewClips):
    def each(self, sample):
        return [(reversed_clip, sample), (stretched, sample, (3, 2)), (cut, sample, (0, 1), sample[0]),
                (mixed, sample, sample, (1, 2))]

    def test_thirteen_pieces(self):
        sample = clip({"a": zigzag(12, 13), "b": zigzag(13, 12)}, many_markers(13))
        for function, *arguments in self.each(sample):
            self.refused("too many pieces", function, *arguments)

    def test_thirteen_markers(self):
        sample = clip({"a": zigzag(12)}, many_markers(13))
        for function, *arguments in self.each(sample):
            self.refused("too many markers", function, *arguments)

    def test_thirteen_pieces_that_could_be_fewer(self):
        sample = clip({"a": track(0, *[(1, 3, 0)] * 13)}, many_markers(12))
        for function, *arguments in self.each(sample):
            self.good(function(*arguments))

    def test_twelve_of_both(self):
        sample = clip({"a": zigzag(12)}, many_markers(12))
        for function, *arguments in self.each(sample):
            found = function(*arguments)
            self.good(found)
            self.assertEqual([len(found[1][0][1]), len(found[2])], [12, 12])


class Interface(NewClips):
    def test_arguments_are_not_changed(self):
        for sample in [*SAMPLES.values(), *ALIKE, SPLIT]:
            before = copy.deepcopy(sample)
            reversed_clip(sample)
            stretched(sample, (2, 3))
            cut(sample, (1, 7), (2, 7))
            joined(sample, reversed_clip(sample))
            joined(reversed_clip(sample), sample)
            mixed(sample, sample, (1, 2))
            self.assertEqual(sample, before)

    def test_very_large_numbers(self):
        huge = Fraction(10 ** 400 + 1, 10 ** 300)
        sample = SAMPLES["many"]
        self.assertEqual(stretched(stretched(sample, pair(huge)), pair(1 / huge)), normal(sample))
        low, high = ALIKE[0], ALIKE[1]
        found = mixed(mixed(low, high, pair(huge)), high, pair(huge / (huge - 1)))
        self.assertEqual(found[1], normal(low)[1])

    def test_the_names_of_the_arguments(self):
        sample = SAMPLES["hill"]
        self.assertEqual(reversed_clip(clip=sample), reversed_clip(sample))
        self.assertEqual(stretched(clip=sample, factor=(2, 1)), stretched(sample, (2, 1)))
        self.assertEqual(cut(clip=sample, first=(1, 1), second=(2, 1)), cut(sample, (1, 1), (2, 1)))
        self.assertEqual(joined(first=sample, second=sample), joined(sample, sample))
        self.assertEqual(mixed(first=sample, second=sample, weight=(1, 2)), sample)

    def test_all_are_defined_in_this_file(self):
        for function in [reversed_clip, stretched, cut, joined, mixed]:
            self.assertEqual(function.__module__, newclips.__name__)


if __name__ == "__main__":
    unittest.main()
