"""tracks.py: where the slope of a piece is 0 inside it, and only there."""

import unittest
from fractions import Fraction

from clipmodel import SAMPLES, pair, track
from surecues.clips import slope_at, value_at
from surecues.tracks import turns


class Turns(unittest.TestCase):
    def test_inside_a_piece(self):
        self.assertEqual(turns(track(0, (4, 4, -1))), [(2, 1)])
        self.assertEqual(turns(track(0, (1, 0, 0), (4, 4, -1), (1, -4, 3))), [(3, 1), (17, 3)])
        self.assertEqual(turns(track(0, (1, Fraction(1, 3), Fraction(-1, 2)))), [(1, 3)])

    def test_not_where_pieces_begin_or_end(self):
        self.assertEqual(turns(track(0, (2, 4, -1), (2, 0, -1))), [])

    def test_not_where_a_piece_would_turn_if_it_were_longer(self):
        self.assertEqual(turns(track(0, (1, 4, -1), (4, 4, 1))), [])

    def test_not_in_pieces_that_do_not_bend(self):
        self.assertEqual(turns(track(0, (1, 0, 0), (1, 5, 0))), [])

    def test_the_value_goes_back_there(self):
        for sample in SAMPLES.values():
            for prop, row in sample[1]:
                for place in turns(row):
                    self.assertEqual(slope_at(sample, prop, place), (0, 1))
                    self.assertEqual(slope_at(sample, prop, place, back=True), (0, 1))
                    step = Fraction(1, 10 ** 6)
                    around = [value_at(sample, prop, pair(Fraction(*place) + move))
                              for move in (-step, step)]
                    self.assertEqual(around[0], around[1])
                    self.assertNotEqual(around[0], value_at(sample, prop, place))


if __name__ == "__main__":
    unittest.main()
