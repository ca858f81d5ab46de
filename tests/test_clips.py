"""Promises [4] to [7]: values, slopes, the normal form, least and greatest values."""

import copy
import unittest
from fractions import Fraction
from itertools import combinations_with_replacement

import clipmodel
from clipmodel import SAMPLES, clip, pair, split, track
from surecues import clips
from surecues.clips import greatest_value, least_value, normal, slope_at, value_at

HUGE = 10 ** 400
TWO_PIECES = clip({"lamp": track(0, (2, 0, 2), (2, -4, 0))})
# The value goes up to 4 in the middle of the first piece, and down to -2 in that of the second.
WAVE = clip({"lamp": track(0, (4, 4, -1), (4, -2, Fraction(1, 2)))})


def each_position():
    for sample in SAMPLES.values():
        for prop in clipmodel.props(sample):
            for position in clipmodel.grid(sample):
                yield sample, prop, position


class Samples(unittest.TestCase):
    def test_they_are_clips(self):
        for name, sample in SAMPLES.items():
            self.assertTrue(clipmodel.is_clip(sample), name)


class Values(unittest.TestCase):
    def test_certain_values(self):
        for position, expected in [((0, 1), (0, 1)), ((1, 2), (1, 2)), ((1, 1), (2, 1)),
                                   ((2, 1), (8, 1)), ((5, 2), (6, 1)), ((10, 3), (8, 3)),
                                   ((4, 1), (0, 1))]:
            self.assertEqual(value_at(TWO_PIECES, "lamp", position), expected)

    def test_all_samples(self):
        for sample, prop, position in each_position():
            found = value_at(sample, prop, pair(position))
            self.assertEqual(found, pair(clipmodel.value(sample, prop, position)))
            self.assertTrue(clipmodel.is_number(found))

    def test_each_property_has_its_own_values(self):
        found = [value_at(SAMPLES["many"], prop, (2, 1))
                 for prop in ["bell", "curtain", "door", "fog", "lamp"]]
        self.assertEqual(found, [(1, 1), (2, 1), (7, 3), (5, 1), (4, 1)])

    def test_twelve_pieces(self):
        pieces = [(Fraction(1, 3), 3 * (-1) ** step, 0) for step in range(12)]
        sample = clip({"lamp": track(0, *pieces)})
        for step in range(13):
            self.assertEqual(value_at(sample, "lamp", pair(Fraction(step, 3))), (step & 1, 1))

    def test_very_large_numbers(self):
        sample = clip({"lamp": track(1, (HUGE, Fraction(1, HUGE), HUGE), (1, 0, 0))})
        self.assertEqual(value_at(sample, "lamp", (HUGE, 1)), (HUGE ** 3 + 2, 1))
        self.assertEqual(value_at(sample, "lamp", (1, HUGE)),
                         pair(1 + Fraction(1, HUGE ** 2) + Fraction(1, HUGE)))


class Slopes(unittest.TestCase):
    def test_certain_slopes(self):
        for position, forth, back in [((0, 1), 0, 0), ((1, 1), 4, 4), ((2, 1), -4, 8),
                                      ((3, 1), -4, -4), ((4, 1), -4, -4)]:
            self.assertEqual(slope_at(TWO_PIECES, "lamp", position), (forth, 1))
            self.assertEqual(slope_at(TWO_PIECES, "lamp", position, back=False), (forth, 1))
            self.assertEqual(slope_at(TWO_PIECES, "lamp", position, back=True), (back, 1))

    def test_at_the_end_of_a_piece_that_bends(self):
        sample = clip({"lamp": track(0, (2, 1, 3))})
        self.assertEqual(slope_at(sample, "lamp", (2, 1)), (13, 1))
        self.assertEqual(slope_at(sample, "lamp", (2, 1), back=True), (13, 1))
        self.assertEqual(slope_at(sample, "lamp", (0, 1), back=True), (1, 1))

    def test_all_samples(self):
        for sample, prop, position in each_position():
            back, forth = clipmodel.slopes(sample, prop, position)
            self.assertEqual(slope_at(sample, prop, pair(position)), pair(forth))
            self.assertEqual(slope_at(sample, prop, pair(position), back=True), pair(back))

    def test_back_is_passed_by_keyword(self):
        with self.assertRaises(TypeError):
            slope_at(TWO_PIECES, "lamp", (1, 1), True)


class Normal(unittest.TestCase):
    def lamp(self, *pieces):
        return normal(clip({"lamp": track(3, *pieces)}))[1][0][1]

    def test_pieces_that_could_be_one(self):
        self.assertEqual(self.lamp((1, 0, 0), (2, 0, 0)), track(3, (3, 0, 0)))
        self.assertEqual(self.lamp((1, 5, 0), (2, 5, 0)), track(3, (3, 5, 0)))
        self.assertEqual(self.lamp((1, 5, -1), (2, 3, -1)), track(3, (3, 5, -1)))
        self.assertEqual(self.lamp((Fraction(1, 2), 1, Fraction(1, 3)),
                                   (Fraction(1, 6), Fraction(4, 3), Fraction(1, 3))),
                         track(3, (Fraction(2, 3), 1, Fraction(1, 3))))

    def test_pieces_that_could_not(self):
        for second in [(2, 5, -1), (2, 3, -2), (2, 3, 0), (2, 3, 1), (2, -3, -1), (1, 0, 0)]:
            self.assertEqual(self.lamp((1, 5, -1), second), track(3, (1, 5, -1), second))

    def test_the_same_formula_again_does_not_go_on(self):
        # Where the first one ends it has the value with which it began, but another slope.
        self.assertEqual(self.lamp((2, 2, -1), (2, 2, -1)), track(3, (2, 2, -1), (2, 2, -1)))

    def test_three_and_more_that_are_one(self):
        self.assertEqual(self.lamp((1, 5, -1), (1, 3, -1), (3, 1, -1)), track(3, (5, 5, -1)))
        self.assertEqual(self.lamp(*[(1, 2, 0)] * 12), track(3, (12, 2, 0)))
        self.assertEqual(self.lamp((1, 0, 0), (1, 1, 0), (1, 1, 0), (1, 1, 0), (1, 0, 0), (2, 0, 0)),
                         track(3, (1, 0, 0), (3, 1, 0), (3, 0, 0)))

    def test_only_neighbors_become_one(self):
        pieces = [(1, 1, 0), (1, 2, 0), (1, 1, 0), (1, 2, 0)]
        self.assertEqual(self.lamp(*pieces), track(3, *pieces))

    def test_length_markers_and_properties_stay(self):
        for name, sample in SAMPLES.items():
            found = normal(sample)
            self.assertTrue(clipmodel.is_clip(found), name)
            self.assertTrue(clipmodel.is_normal(found), name)
            self.assertEqual((found[0], found[2]), (sample[0], sample[2]))
            self.assertEqual(clipmodel.props(found), clipmodel.props(sample))

    def test_the_values_stay(self):
        for sample, prop, position in each_position():
            found = value_at(normal(sample), prop, pair(position))
            self.assertEqual(found, pair(clipmodel.value(sample, prop, position)))

    def test_a_normal_form_of_a_normal_form(self):
        for sample in SAMPLES.values():
            self.assertEqual(normal(normal(sample)), normal(sample))

    def test_each_track_gets_normal(self):
        sample = clip({"a": track(0, (1, 1, 0), (1, 1, 0)), "b": track(0, (1, 2, 0), (1, 2, 0)),
                       "c": track(0, (1, 1, 0), (1, 2, 0))})
        self.assertEqual([len(row) for _, row in normal(sample)[1]], [1, 1, 2])

    def test_clips_that_are_cut_otherwise_have_the_same(self):
        for name, sample in SAMPLES.items():
            length = Fraction(*sample[0])
            for prop in clipmodel.props(sample):
                for places in [[length / 7], [length / 3, length / 2, length * 8 / 9],
                               [length * step / 20 for step in range(1, 8)]]:
                    parted = split(sample, prop, *places)
                    self.assertNotEqual(parted, sample)
                    self.assertEqual(normal(parted), normal(sample), name)

    def test_clips_with_one_number_changed_have_not(self):
        pieces = [(1, 1, 0), (2, 3, -1), (1, 0, 2)]
        usual = normal(clip({"lamp": track(0, *pieces)}))
        for at in range(3):
            for part in (1, 2):
                changed = [list(piece) for piece in pieces]
                changed[at][part] += Fraction(1, 1000)
                other = normal(clip({"lamp": track(0, *changed)}))
                self.assertEqual(other[0], usual[0])
                self.assertNotEqual(other, usual)
        self.assertNotEqual(normal(clip({"lamp": track(Fraction(1, 9), *pieces)})), usual)

    def test_more_pieces_than_a_clip_has_are_not_refused(self):
        pieces = [(1, step, 0) for step in range(14)]
        self.assertEqual(self.lamp(*pieces), track(3, *pieces))


class Extremes(unittest.TestCase):
    def both(self, sample, first, second):
        first, second = pair(first), pair(second)
        return least_value(sample, "lamp", first, second), greatest_value(sample, "lamp", first, second)

    def test_at_the_ends_of_the_span(self):
        self.assertEqual(self.both(WAVE, Fraction(1, 2), 1), ((7, 4), (3, 1)))
        self.assertEqual(self.both(WAVE, 3, Fraction(7, 2)), ((7, 4), (3, 1)))

    def test_where_pieces_meet(self):
        peak = clip({"lamp": track(1, (2, 1, 0), (2, -1, 0), (2, 1, 0))})
        self.assertEqual(self.both(peak, 1, 3), ((2, 1), (3, 1)))
        self.assertEqual(self.both(peak, 3, 5), ((1, 1), (2, 1)))
        self.assertEqual(self.both(peak, 1, 5), ((1, 1), (3, 1)))

    def test_where_a_slope_is_0(self):
        self.assertEqual(self.both(WAVE, 1, 3), ((3, 1), (4, 1)))
        self.assertEqual(self.both(WAVE, 5, 7), ((-2, 1), (-3, 2)))
        self.assertEqual(self.both(WAVE, 0, 8), ((-2, 1), (4, 1)))

    def test_where_a_slope_is_0_at_an_end_of_the_span(self):
        self.assertEqual(self.both(WAVE, 2, 3), ((3, 1), (4, 1)))
        self.assertEqual(self.both(WAVE, 5, 6), ((-2, 1), (-3, 2)))

    def test_where_a_slope_is_0_outside_the_span(self):
        self.assertEqual(self.both(WAVE, Fraction(5, 2), 5), ((-3, 2), (15, 4)))

    def test_where_a_slope_would_be_0_outside_its_piece(self):
        # The first piece would turn at 4, the second one at the place -1.
        sample = clip({"lamp": track(0, (2, 8, -1), (2, 2, 1))})
        self.assertEqual(self.both(sample, 0, 4), ((0, 1), (20, 1)))
        self.assertEqual(self.both(sample, 1, 3), ((7, 1), (15, 1)))

    def test_spans_of_one_position(self):
        for position, expected in [(0, 0), (1, 3), (2, 4), (4, 0), (6, -2), (8, 0)]:
            self.assertEqual(self.both(WAVE, position, position), ((expected, 1), (expected, 1)))

    def test_level_pieces(self):
        self.assertEqual(self.both(SAMPLES["level"], 0, 4), ((5, 1), (5, 1)))

    def test_all_samples(self):
        for sample in SAMPLES.values():
            for prop in clipmodel.props(sample):
                for first, second in combinations_with_replacement(clipmodel.grid(sample, 9), 2):
                    least, greatest = clipmodel.extremes(sample, prop, first, second)
                    span = pair(first), pair(second)
                    self.assertEqual(least_value(sample, prop, *span), pair(least))
                    self.assertEqual(greatest_value(sample, prop, *span), pair(greatest))

    def test_no_value_lies_outside(self):
        for sample, prop, position in each_position():
            least = Fraction(*least_value(sample, prop, (0, 1), sample[0]))
            greatest = Fraction(*greatest_value(sample, prop, (0, 1), sample[0]))
            found = clipmodel.value(sample, prop, position)
            self.assertTrue(least <= found <= greatest)

    def test_they_are_numbers(self):
        for found in self.both(SAMPLES["short"], 0, Fraction(3, 7)):
            self.assertTrue(clipmodel.is_number(found))

    def test_numbers_of_many_sizes_are_ordered_as_fractions(self):
        sample = clip({"lamp": track(Fraction(1, 3), (1, Fraction(1, 5), 0), (1, Fraction(-9, 14), 0),
                                     (1, 12, 0), (1, -HUGE, 0))})
        self.assertEqual(self.both(sample, 0, 3), (pair(Fraction(8, 15) - Fraction(9, 14)),
                                                   pair(Fraction(8, 15) - Fraction(9, 14) + 12)))


class Interface(unittest.TestCase):
    def test_arguments_are_not_changed(self):
        for sample in SAMPLES.values():
            before = copy.deepcopy(sample)
            span = (0, 1), sample[0]
            value_at(sample, "lamp", (0, 1))
            slope_at(sample, "lamp", (0, 1), back=True)
            least_value(sample, "lamp", *span)
            greatest_value(sample, "lamp", *span)
            normal(sample)
            self.assertEqual(sample, before)

    def test_the_names_of_the_arguments(self):
        self.assertEqual(value_at(clip=WAVE, prop="lamp", position=(1, 1)), (3, 1))
        self.assertEqual(slope_at(clip=WAVE, prop="lamp", position=(1, 1), back=True), (2, 1))
        self.assertEqual(least_value(clip=WAVE, prop="lamp", first=(1, 1), second=(2, 1)), (3, 1))
        self.assertEqual(greatest_value(clip=WAVE, prop="lamp", first=(1, 1), second=(2, 1)), (4, 1))
        self.assertEqual(normal(clip=WAVE), WAVE)

    def test_all_are_defined_in_this_file(self):
        for function in [value_at, slope_at, least_value, greatest_value, normal]:
            self.assertEqual(function.__module__, clips.__name__)


if __name__ == "__main__":
    unittest.main()
