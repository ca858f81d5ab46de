"""Promises [12] to [20], one by one: heads, values, markers, loops, events, commands, histories."""

import copy
import unittest
from fractions import Fraction
from unittest.mock import ANY

from clipmodel import clip, pair, split, track
from surecues import players
from surecues.cliptext import read_clip
from surecues.errors import PlayError
from surecues.limits import COMMANDS, EVENTS
from surecues.players import Player, replayed

F = Fraction
RISE = read_clip("clip 4\ntrack lamp\nkey 0 0 in\nkey 2 8 line\nkey 4 0 line\nmark 1 up\n")
# A lamp that goes from 0 to 4 and has a marker at each whole position, two of them in the middle.
LAMP = clip({"lamp": track(0, (4, 1, 0))},
            [(0, "first"), (1, "one"), (2, "two"), (2, "also"), (3, "three"), (4, "last")])
PLAIN = clip({"lamp": track(10, (4, -1, 0))})
BOTH = clip({"door": track(5, (2, 0, 1)), "lamp": track(-3, (2, 0, 0))}, [(1, "mid")])
DOOR = clip({"door": track(100, (4, 0, 0))}, [(2, "two"), (4, "out")])
SPLIT = split(PLAIN, "lamp", 1, 2)
CLIPS = (("both", BOTH), ("door", DOOR), ("lamp", LAMP), ("plain", PLAIN), ("rise", RISE),
         ("split", SPLIT))
RESTS = (("rope", (9, 2)), ("lamp", (-7, 1)), ("door", (1, 3)))


def new_player():
    return Player(CLIPS, RESTS)


def n(value):
    return pair(value)


def start(head, name, position=0, rate=1, rounds=0):
    return "start", head, name, pair(position), pair(rate), rounds


def rate(head, value):
    return "rate", head, pair(value)


class Players(unittest.TestCase):
    def refused(self, what, function, *arguments):
        with self.assertRaises(PlayError) as caught:
            function(*arguments)
        self.assertEqual(caught.exception.what, what)

    def playing(self, *commands):
        """A new player that did these commands at 0, none of which led to an event."""
        player = new_player()
        for command in commands:
            self.assertEqual(player.do(command), [], command)
        return player

    def go(self, player, time, expected):
        """Goes on to a time; the events are told as (time, head, kind, name) with plain times."""
        found = player.advance_to(pair(time))
        self.assertEqual(found, [(pair(at), *rest) for at, *rest in expected])


class TheExample(Players):
    def test_as_the_document_has_it(self):
        p = Player((("rise", RISE),), (("lamp", (0, 1)),))
        self.assertEqual(p.do(("start", 0, "rise", (0, 1), (2, 1), 1)), [])
        self.assertEqual(p.do(("trigger", "up", ("rate", 0, (1, 1)))), [])
        self.assertEqual(p.advance_to((3, 1)), [((1, 2), 0, "mark", "up")])
        self.assertEqual((p.value("lamp"), p.speed("lamp")), ((2, 1), (-4, 1)))
        self.assertEqual(p.next_event(), (7, 2))
        self.assertEqual(p.advance_to((4, 1)), [((7, 2), 0, "loop", "")])
        self.assertEqual(p.state, ((4, 1), (("rise", (1, 2), (1, 1), 0), None, None, None),
                                   (("lamp", (1, 2)),)))


class NewPlayers(Players):
    def test_a_new_player(self):
        player = new_player()
        self.assertEqual(player.time, (0, 1))
        self.assertEqual((player.events, player.history, list(player), len(player)), ([], [], [], 0))
        self.assertEqual(player.state, ((0, 1), (None,) * 4, RESTS))
        self.assertIsNone(player.next_event())
        self.assertEqual([player.value(prop) for prop, _ in RESTS], [value for _, value in RESTS])
        self.assertEqual([player.speed(prop) for prop, _ in RESTS], [(0, 1)] * 3)
        self.assertFalse(any(name in player for name in ["one", "up", "", "start"]))

    def test_nothing_ever_happens(self):
        player = new_player()
        self.go(player, 10 ** 30, [])
        self.assertEqual(player.time, (10 ** 30, 1))
        self.assertIsNone(player.next_event())

    def test_players_do_not_share(self):
        first, second = new_player(), new_player()
        first.do(start(0, "lamp"))
        first.do(("trigger", "one", ("stop", 0)))
        first.advance_to((2, 1))
        self.assertEqual(second, new_player())
        self.assertEqual(second.state, ((0, 1), (None,) * 4, RESTS))


class Values(Players):
    def test_the_position_goes_on_by_the_rate(self):
        player = self.playing(start(2, "plain", F(1, 2), F(1, 3), 5))
        self.assertEqual(player.state[1], (None, None, ("plain", (1, 2), (1, 3), 5), None))
        player.advance_to((1, 1))
        self.assertEqual(player.state[1][2], ("plain", (5, 6), (1, 3), 5))
        self.assertEqual((player.value("lamp"), player.speed("lamp")), (n(F(55, 6)), n(F(-1, 3))))

    def test_the_greatest_number_shows_it(self):
        player = self.playing(start(1, "plain", 1))
        self.assertEqual(player.value("lamp"), (9, 1))
        player.do(start(3, "lamp", F(1, 2)))
        self.assertEqual(player.value("lamp"), (1, 2))
        player.do(start(2, "plain", 2))
        self.assertEqual(player.value("lamp"), (1, 2))
        player.do(("stop", 3))
        self.assertEqual(player.value("lamp"), (8, 1))
        player.do(("stop", 2))
        self.assertEqual(player.value("lamp"), (9, 1))
        player.do(start(0, "lamp", 3))
        self.assertEqual(player.value("lamp"), (9, 1))

    def test_a_head_whose_clip_does_not_have_it_hides_nothing(self):
        player = self.playing(start(0, "plain", 1), start(3, "door", 1))
        self.assertEqual((player.value("lamp"), player.value("door")), ((9, 1), (100, 1)))
        self.assertEqual(player.value("rope"), (9, 2))

    def test_it_stays_where_it_was_shown_last(self):
        player = self.playing(start(0, "plain", 1))
        player.advance_to((1, 2))
        player.do(("stop", 0))
        self.assertEqual(player.value("lamp"), n(F(17, 2)))
        player.advance_to((20, 1))
        self.assertEqual((player.value("lamp"), player.speed("lamp")), (n(F(17, 2)), (0, 1)))

    def test_it_stays_at_the_end(self):
        player = self.playing(start(0, "plain", 1, 2), start(1, "both", 2, -1))
        player.advance_to((9, 1))
        # Head 1 shows the lamp until 2, but head 0 is at its end at 3 / 2 already.
        self.assertEqual((player.value("lamp"), player.value("door")), ((-3, 1), (5, 1)))
        player = self.playing(start(1, "plain", 1, 2), start(0, "both", 2, -1))
        player.advance_to((7, 4))
        # Now head 1 shows it until 3 / 2, and then head 0 up to 2.
        self.assertEqual(player.value("lamp"), (-3, 1))

    def test_it_stays_when_its_head_gets_another_clip(self):
        player = self.playing(start(0, "plain", 1), start(0, "door", 1))
        self.assertEqual(player.state[2], (("rope", (9, 2)), ("lamp", (9, 1)), ("door", (100, 1))))

    def test_it_is_shown_also_for_no_time_at_all(self):
        player = self.playing(start(0, "plain", 1), start(1, "plain", 3), ("stop", 0), ("stop", 1))
        self.assertEqual(player.value("lamp"), (7, 1))

    def test_two_heads_that_end_at_once(self):
        player = self.playing(start(0, "plain", 2, 1), start(1, "lamp", 3, F(1, 2)))
        self.go(player, 2, [(2, 0, "end", ""), (2, 1, "mark", "last"), (2, 1, "end", "")])
        self.assertEqual(player.value("lamp"), (4, 1))

    def test_a_clip_that_is_not_normal(self):
        player = self.playing(start(0, "split", F(1, 2)))
        self.go(player, F(1, 2), [])
        self.assertEqual((player.value("lamp"), player.speed("lamp")), ((9, 1), (-1, 1)))


class Speeds(Players):
    def test_on_the_side_to_which_the_head_goes(self):
        for factor, expected in [(1, -4), (3, -12), (-1, -8), (F(-1, 2), -4), (0, 0)]:
            player = self.playing(start(0, "rise", 2, factor))
            self.assertEqual(player.speed("lamp"), n(expected))
            self.assertEqual(player.value("lamp"), (8, 1))

    def test_of_the_head_that_shows_it(self):
        player = self.playing(start(0, "rise", 3, 2), start(1, "lamp", 1, 7))
        self.assertEqual(player.speed("lamp"), (7, 1))
        player.do(rate(1, 0))
        self.assertEqual(player.speed("lamp"), (0, 1))
        player.do(("stop", 1))
        self.assertEqual(player.speed("lamp"), (-8, 1))
        player.do(("stop", 0))
        self.assertEqual(player.speed("lamp"), (0, 1))

    def test_of_a_head_that_stands_at_an_end(self):
        player = self.playing(start(0, "rise", 0, 2), start(1, "both", 2, -3))
        self.assertEqual((player.speed("lamp"), player.speed("door")), ((0, 1), (-12, 1)))


class Markers(Players):
    def test_forward(self):
        player = self.playing(start(0, "lamp"))
        self.go(player, 5, [(1, 0, "mark", "one"), (2, 0, "mark", "also"), (2, 0, "mark", "two"),
                            (3, 0, "mark", "three"), (4, 0, "mark", "last"), (4, 0, "end", "")])

    def test_back(self):
        player = self.playing(start(1, "lamp", 4, -2))
        self.go(player, 5, [(F(1, 2), 1, "mark", "three"), (1, 1, "mark", "also"),
                            (1, 1, "mark", "two"), (F(3, 2), 1, "mark", "one"),
                            (2, 1, "mark", "first"), (2, 1, "end", "")])

    def test_a_head_that_is_put_on_one_does_not_reach_it(self):
        for position, first in [(0, "one"), (1, "also"), (3, "last")]:
            player = self.playing(start(0, "lamp", position))
            self.go(player, 0, [])
            self.assertEqual(player.advance_to((1, 1))[0][3], first)

    def test_nor_when_its_rate_is_changed_there(self):
        player = self.playing(start(0, "lamp", 1, 0), rate(0, 1), rate(0, -1), rate(0, 1))
        self.go(player, F(1, 2), [])
        player.do(rate(0, -1))
        self.go(player, 1, [(1, 0, "mark", "one")])
        player.do(rate(0, 1))
        self.go(player, F(3, 2), [])
        player.do(rate(0, 0))
        player.do(rate(0, -1))
        self.go(player, 2, [(2, 0, "mark", "one")])

    def test_in_one_round_after_the_other(self):
        player = self.playing(start(0, "lamp", 3, 1, 2))
        marks = [event for event in player.advance_to((6, 1)) if event[3] in ("first", "last")]
        # The beginning is reached by no round, since each one begins there.
        self.assertEqual([(at, name) for at, _, _, name in marks], [(n(1), "last"), (n(5), "last")])

    def test_a_head_that_stands_reaches_none(self):
        player = self.playing(start(0, "lamp", 1, 0))
        self.go(player, 100, [])
        self.assertIsNone(player.next_event())


class Ends(Players):
    def test_an_end(self):
        player = self.playing(start(0, "plain", 1))
        self.go(player, 3, [(3, 0, "end", "")])
        self.assertEqual(player.state[1], (None,) * 4)
        self.go(player, 100, [])

    def test_loops_and_then_an_end(self):
        player = self.playing(start(0, "plain", 3, 2, 2))
        self.go(player, F(1, 2), [(F(1, 2), 0, "loop", "")])
        self.assertEqual(player.state[1][0], ("plain", (0, 1), (2, 1), 1))
        self.go(player, 9, [(F(5, 2), 0, "loop", ""), (F(9, 2), 0, "end", "")])
        self.assertEqual(player.value("lamp"), (6, 1))

    def test_loops_backward(self):
        player = self.playing(start(0, "plain", 1, -1, 1))
        self.go(player, 2, [(1, 0, "loop", "")])
        self.assertEqual(player.state[1][0], ("plain", (3, 1), (-1, 1), 0))
        self.go(player, 9, [(5, 0, "end", "")])
        self.assertEqual(player.value("lamp"), (10, 1))

    def test_at_the_start(self):
        for position, factor in [(4, 1), (0, -1), (4, F(1, 9)), (0, -5)]:
            player = new_player()
            self.assertEqual(player.do(start(3, "lamp", position, factor)), [((0, 1), 3, "end", "")])
            self.assertEqual(player.state[1], (None,) * 4)
            self.assertEqual(player.value("lamp"), n(position))
            self.assertEqual(player.events, [((0, 1), 3, "end", "")])

    def test_at_the_start_with_rounds(self):
        player = new_player()
        self.go(player, 7, [])
        self.assertEqual(player.do(start(3, "lamp", 4, 2, 2)), [((7, 1), 3, "loop", "")])
        self.assertEqual(player.state[1][3], ("lamp", (0, 1), (2, 1), 1))
        self.assertEqual(player.do(start(3, "lamp", 0, -2, 1)), [((7, 1), 3, "loop", "")])
        self.assertEqual(player.state[1][3], ("lamp", (4, 1), (-2, 1), 0))

    def test_where_the_head_comes_from_it_does_not_end(self):
        for position, factor in [(0, 1), (4, -1), (0, 0), (4, 0)]:
            self.playing(start(0, "lamp", position, factor, 3))

    def test_when_the_rate_is_changed(self):
        player = self.playing(start(0, "plain", 4, 0, 1))
        self.assertEqual(player.do(rate(0, 1)), [((0, 1), 0, "loop", "")])
        self.assertEqual(player.do(rate(0, -1)), [((0, 1), 0, "end", "")])
        self.refused("not playing", player.do, rate(0, 1))

    def test_a_head_that_stands_at_its_end(self):
        player = self.playing(start(0, "plain", 4, 0, 3), start(1, "plain", 0, 0, 3))
        self.go(player, 50, [])
        self.assertEqual(player.state[1][:2], (("plain", (4, 1), (0, 1), 3), ("plain", (0, 1), (0, 1), 3)))

    def test_more_than_one_round_in_one_call(self):
        player = self.playing(start(0, "both", 0, 4, 10))
        found = player.advance_to((3, 1))
        self.assertEqual([event[2] for event in found], ["mark", "loop"] * 6)
        self.assertEqual(player.state[1][0], ("both", (0, 1), (4, 1), 4))


class Events(Players):
    def test_heads_in_ascending_order(self):
        player = self.playing(start(3, "lamp", 3), start(0, "door", 1), start(2, "plain", 3, 1, 1),
                              start(1, "lamp", 1))
        self.go(player, 1, [(1, 0, "mark", "two"), (1, 1, "mark", "also"), (1, 1, "mark", "two"),
                            (1, 2, "loop", ""), (1, 3, "mark", "last"), (1, 3, "end", "")])

    def test_loops_and_ends_happen_ahead_of_commands(self):
        player = self.playing(start(0, "lamp", 3, 1, 1), ("trigger", "last", rate(0, 0)))
        self.go(player, 9, [(1, 0, "mark", "last"), (1, 0, "loop", "")])
        # The loop has happened before the head stands still.
        self.assertEqual(player.state[1][0], ("lamp", (0, 1), (0, 1), 0))

    def test_a_head_that_has_ended_cannot_be_changed_by_its_last_marker(self):
        for command in [rate(0, -1), ("stop", 0)]:
            player = self.playing(start(0, "lamp", 3), ("trigger", "last", command))
            self.go(player, 9, [(1, 0, "mark", "last"), (1, 0, "end", "")])
            self.assertEqual(player.state[1], (None,) * 4)

    def test_but_it_can_be_started_again(self):
        player = self.playing(start(0, "lamp", 3), ("trigger", "last", start(0, "plain", 2)))
        self.go(player, 2, [(1, 0, "mark", "last"), (1, 0, "end", "")])
        self.assertEqual(player.state[1][0], ("plain", (3, 1), (1, 1), 0))

    def test_all_events_of_a_list_are_recorded(self):
        # The command of the first one stops the head of the others.
        player = self.playing(start(0, "door", 1), start(1, "lamp", 3), start(2, "lamp", 1),
                              ("trigger", "two", ("stop", 2)))
        self.go(player, 1, [(1, 0, "mark", "two"), (1, 1, "mark", "last"), (1, 1, "end", ""),
                            (1, 2, "mark", "also"), (1, 2, "mark", "two")])
        self.assertIsNone(player.state[1][2])

    def test_a_further_list_of_the_same_time(self):
        player = self.playing(start(0, "lamp", 0), start(1, "plain", 3, 0, 1), start(2, "door", 1),
                              ("trigger", "one", start(3, "lamp", 4, 1, 1)),
                              ("trigger", "two", rate(0, 0)))
        self.go(player, 1, [(1, 0, "mark", "one"), (1, 2, "mark", "two"), (1, 3, "loop", "")])
        # The loop of the further list puts the head on a marker, which it does not reach.
        self.assertEqual(player.state[1], (("lamp", (1, 1), (0, 1), 0), ("plain", (3, 1), (0, 1), 1),
                                           ("door", (2, 1), (1, 1), 0), ("lamp", (0, 1), (1, 1), 0)))

    def test_a_further_list_behind_a_loop_of_the_same_head(self):
        player = self.playing(start(0, "lamp", 3, 1, 2), ("trigger", "last", rate(0, -1)))
        self.go(player, 1, [(1, 0, "mark", "last"), (1, 0, "loop", ""), (1, 0, "loop", "")])
        self.assertEqual(player.state[1][0], ("lamp", (4, 1), (-1, 1), 0))
        player = self.playing(start(0, "lamp", 3, 1, 1), ("trigger", "last", rate(0, -1)))
        self.go(player, 1, [(1, 0, "mark", "last"), (1, 0, "loop", ""), (1, 0, "end", "")])
        self.assertIsNone(player.state[1][0])
        self.assertEqual(player.value("lamp"), (0, 1))

    def test_a_further_list_is_in_order_too(self):
        player = self.playing(start(0, "lamp", 1), ("trigger", "also", start(3, "plain", 4)),
                              ("trigger", "two", start(1, "plain", 0, -1, 1)))
        self.go(player, 1, [(1, 0, "mark", "also"), (1, 0, "mark", "two"), (1, 1, "loop", ""),
                            (1, 3, "end", "")])

    def test_all_heads_are_brought_there_first(self):
        # What head 1 reaches is not changed by the command of head 0, which moves it elsewhere.
        player = self.playing(start(0, "door", 1), start(1, "lamp", 2),
                              ("trigger", "two", start(1, "plain", 1)))
        self.go(player, 1, [(1, 0, "mark", "two"), (1, 1, "mark", "three")])
        self.assertEqual(player.state[1][1], ("plain", (1, 1), (1, 1), 0))

    def test_the_events_are_tuples_with_numbers(self):
        player = self.playing(start(0, "both", 0, F(3, 7)))
        self.assertEqual(player.advance_to((3, 1)), [((7, 3), 0, "mark", "mid")])


class Triggers(Players):
    def test_start_change_and_stop(self):
        player = self.playing(start(0, "lamp"), ("trigger", "one", start(1, "door", 3)),
                              ("trigger", "two", rate(0, F(1, 2))), ("trigger", "out", ("stop", 0)))
        self.go(player, F(3, 2), [(1, 0, "mark", "one")])
        self.assertEqual(player.state[1][1], ("door", (7, 2), (1, 1), 0))
        self.go(player, 9, [(2, 0, "mark", "also"), (2, 0, "mark", "two"), (2, 1, "mark", "out"),
                            (2, 1, "end", "")])
        self.assertEqual(player.state[1], (None,) * 4)
        self.assertEqual(player.value("lamp"), (2, 1))

    def test_the_head_that_reached_the_marker(self):
        player = self.playing(start(0, "lamp"), ("trigger", "two", start(0, "lamp", 1)))
        self.go(player, F(7, 2), [(1, 0, "mark", "one"), (2, 0, "mark", "also"), (2, 0, "mark", "two"),
                                  (3, 0, "mark", "also"), (3, 0, "mark", "two")])
        # It is put on the marker each time, and does not reach it by this.
        self.assertEqual(player.state[1][0], ("lamp", (3, 2), (1, 1), 0))

    def test_it_turns_around(self):
        player = self.playing(start(0, "lamp"), ("trigger", "three", rate(0, -1)),
                              ("trigger", "one", rate(0, 1)))
        found = player.advance_to((10, 1))
        self.assertEqual([(F(*at), name) for at, _, _, name in found],
                         [(1, "one"), (2, "also"), (2, "two"), (3, "three"), (4, "also"), (4, "two"),
                          (5, "one"), (6, "also"), (6, "two"), (7, "three"), (8, "also"), (8, "two"),
                          (9, "one"), (10, "also"), (10, "two")])

    def test_by_name_for_all_clips_and_heads(self):
        player = self.playing(start(0, "lamp", 1), start(1, "door", 0, 2), start(2, "lamp", 3, F(-1, 2)),
                              ("trigger", "two", rate(3, 5)), start(3, "plain", 1, 0))
        self.go(player, F(1, 2), [])
        self.assertEqual(player.state[1][3][2], (0, 1))
        self.go(player, 1, [(1, 0, "mark", "also"), (1, 0, "mark", "two"), (1, 1, "mark", "two")])
        self.assertEqual(player.state[1][3][2], (5, 1))

    def test_one_behind_the_other(self):
        # The trigger of the second marker finds what that of the first one did.
        player = self.playing(start(0, "lamp", 1), ("trigger", "also", start(1, "door", 1)),
                              ("trigger", "two", rate(1, F(1, 4))))
        self.go(player, 1, [(1, 0, "mark", "also"), (1, 0, "mark", "two")])
        self.assertEqual(player.state[1][1], ("door", (1, 1), (1, 4), 0))
        player = self.playing(start(0, "lamp", 1), ("trigger", "also", rate(1, F(1, 4))),
                              ("trigger", "two", start(1, "door", 1)))
        self.go(player, 1, [(1, 0, "mark", "also"), (1, 0, "mark", "two")])
        self.assertEqual(player.state[1][1], ("door", (1, 1), (1, 1), 0))

    def test_one_with_a_fault_is_left_out(self):
        for command in [start(4, "lamp"), start(-1, "lamp"), start(1, "none"), start(1, "lamp", 5),
                        start(1, "lamp", F(-1, 9)), rate(4, 1), rate(1, 1), ("stop", 7), ("stop", 1)]:
            player = self.playing(start(0, "lamp"), ("trigger", "one", command))
            self.go(player, F(3, 2), [(1, 0, "mark", "one")])
            self.assertEqual(player.state[1], (("lamp", (3, 2), (1, 1), 0), None, None, None))
            self.assertIn("one", player)

    def test_the_fault_counts_when_it_is_to_be_done(self):
        player = self.playing(start(0, "lamp"), ("trigger", "one", ("stop", 1)))
        self.go(player, F(1, 2), [])
        player.do(start(1, "plain"))
        self.go(player, 1, [(1, 0, "mark", "one")])
        self.assertIsNone(player.state[1][1])

    def test_a_new_one_takes_the_place_of_the_old_one(self):
        player = self.playing(start(0, "lamp"), ("trigger", "one", ("stop", 0)),
                              ("trigger", "one", rate(0, 2)))
        self.go(player, F(3, 2), [(1, 0, "mark", "one"), (F(3, 2), 0, "mark", "also"),
                                  (F(3, 2), 0, "mark", "two")])

    def test_none_takes_it_away(self):
        player = self.playing(start(0, "lamp"), ("trigger", "one", ("stop", 0)),
                              ("trigger", "one", None), ("trigger", "one", None))
        self.assertNotIn("one", player)
        self.go(player, F(3, 2), [(1, 0, "mark", "one")])
        self.assertIsNotNone(player.state[1][0])

    def test_it_stays_when_it_was_done(self):
        player = self.playing(start(0, "lamp", 0, 1, 1), ("trigger", "one", start(1, "plain")))
        player.advance_to((4, 1))
        player.do(("stop", 1))
        player.advance_to((5, 1))
        self.assertEqual(player.state[1][1], ("plain", (0, 1), (1, 1), 0))

    def test_commands_of_triggers_are_not_in_the_history(self):
        player = self.playing(start(0, "lamp"), ("trigger", "one", ("stop", 0)))
        player.advance_to((4, 1))
        self.assertEqual(len(player.history), 2)
        self.assertEqual(player.events, [((1, 1), 0, "mark", "one")])


class Commands(Players):
    def test_the_history(self):
        player = new_player()
        commands = [start(0, "lamp"), ("trigger", "one", None), rate(0, 3), ("stop", 0)]
        for at, command in enumerate(commands):
            player.advance_to(pair(F(at, 9)))
            player.do(command)
        self.assertEqual(player.history, [(pair(F(at, 9)), command)
                                          for at, command in enumerate(commands)])

    def test_a_start_whatever_it_did_before(self):
        player = self.playing(start(0, "lamp", 1, 2, 3), start(0, "door", 3, F(1, 2), 0))
        self.assertEqual(player.state[1][0], ("door", (3, 1), (1, 2), 0))
        self.go(player, 9, [(2, 0, "mark", "out"), (2, 0, "end", "")])

    def test_a_rate_changes_the_rate_alone(self):
        player = self.playing(start(0, "lamp", 0, 1, 3))
        self.go(player, F(1, 2), [])
        player.do(rate(0, F(1, 4)))
        self.assertEqual(player.state[1][0], ("lamp", (1, 2), (1, 4), 3))
        self.go(player, F(5, 2), [(F(5, 2), 0, "mark", "one")])

    def test_each_fault_in_its_order(self):
        faults = [("no such head", start(4, "none", 99)), ("no such head", start(-1, "lamp")),
                  ("no such clip", start(0, "none", 99)), ("no such clip", start(0, "Lamp")),
                  ("outside the clip", start(0, "lamp", F(41, 10))),
                  ("outside the clip", start(0, "lamp", F(-1, 10))),
                  ("outside the clip", start(3, "both", 3)),
                  ("no such head", rate(4, 1)), ("no such head", rate(-1, 1)),
                  ("not playing", rate(1, 0)), ("no such head", ("stop", 4)),
                  ("no such head", ("stop", -4)), ("not playing", ("stop", 2))]
        player = self.playing(start(0, "lamp", 1))
        before = player.history, player.state, player.events
        for what, command in faults:
            self.refused(what, player.do, command)
            self.assertEqual((player.history, player.state, player.events), before)
        while len(player.history) < COMMANDS:
            player.do(("trigger", "one", None))
        for what, command in faults:
            self.refused(what, player.do, command)

    def test_too_many_commands(self):
        player = self.playing(start(0, "plain", 1))
        for at in range(COMMANDS - 2):
            player.do(rate(0, at))
        player.do(("trigger", "one", ("stop", 0)))
        self.assertEqual(len(player.history), 40)
        before = player.history, player.state, player.events, "two" in player
        for command in [rate(0, 1), start(1, "lamp"), start(1, "lamp", 4), ("stop", 0),
                        ("trigger", "two", ("stop", 1)), ("trigger", "one", None)]:
            self.refused("too many commands", player.do, command)
            self.assertEqual((player.history, player.state, player.events, "two" in player), before)
        self.assertIn("one", player)
        # It plays on, and its triggers still do what they do.
        player.advance_to((1, 50))
        self.assertEqual(len(player.history), 40)

    def test_a_start_at_either_end_is_inside(self):
        self.playing(start(0, "lamp", 0), start(1, "lamp", 4, -1))

    def test_do_returns_a_new_list(self):
        player = new_player()
        found = player.do(start(0, "lamp", 4))
        found.append("more")
        self.assertEqual(player.events, [((0, 1), 0, "end", "")])


class GoingOn(Players):
    def test_not_later(self):
        player = self.playing(start(0, "lamp"))
        player.advance_to((5, 2))
        before = player.state, player.events
        for time in [(2, 1), (-1, 1), (0, 1), (249, 100)]:
            self.refused("not later", player.advance_to, time)
            self.assertEqual((player.state, player.events), before)
        self.go(player, F(5, 2), [])
        self.assertEqual((player.state, player.events), before)

    def test_all_events_up_to_it_and_at_it(self):
        player = self.playing(start(0, "lamp"))
        self.go(player, F(999, 1000), [])
        self.go(player, 1, [(1, 0, "mark", "one")])
        self.go(player, 1, [])
        self.go(player, F(1999, 1000), [])
        self.go(player, 2, [(2, 0, "mark", "also"), (2, 0, "mark", "two")])

    def test_a_hundred_events_and_one_more(self):
        player = self.playing(start(0, "plain", 0, 4, 1000))
        found = player.advance_to((100, 1))
        self.assertEqual(len(found), EVENTS)
        self.assertEqual(found[-1], ((100, 1), 0, "loop", ""))
        player = self.playing(start(0, "plain", 0, 4, 1000), ("trigger", "one", ("stop", 0)))
        before = player.state, player.events, player.history, player.next_event()
        for time in [(101, 1), (203, 2), (10 ** 9, 1)]:
            self.refused("too many events", player.advance_to, time)
            self.assertEqual((player.state, player.events, player.history, player.next_event()), before)
            self.assertIn("one", player)
        # Going on in two steps is not refused.
        self.assertEqual(len(player.advance_to((201, 2))), 100)
        self.assertEqual(len(player.advance_to((101, 1))), 1)
        self.assertEqual(len(player), 101)

    def test_events_of_one_time_count_one_by_one(self):
        commands = [start(0, "plain", 0, 1, 99), start(1, "plain", 0, 1, 99),
                    start(2, "plain", 0, 1, 99), start(3, "lamp", 0, 4, 99)]
        player = self.playing(*commands)
        # Three loops each 4, and six events of head 3 each 1.
        self.assertEqual(len(player.advance_to((12, 1))), 9 + 72)
        self.assertEqual(len(player.advance_to((15, 1))), 18)
        player = self.playing(*commands)
        self.assertEqual(len(player.advance_to((15, 1))), 99)
        player = self.playing(*commands)
        self.refused("too many events", player.advance_to, (16, 1))

    def test_a_further_list_counts_too(self):
        player = self.playing(start(0, "lamp", 0, 1, 100), ("trigger", "one", start(1, "plain", 4)))
        # Seven events each round: five markers, a loop, and the end of a further list.
        self.assertEqual(len(player.advance_to((4 * 14, 1))), 98)
        player = self.playing(start(0, "lamp", 0, 1, 100), ("trigger", "one", start(1, "plain", 4)))
        self.assertEqual(len(player.advance_to((57, 1))), 100)
        player = self.playing(start(0, "lamp", 0, 1, 100), ("trigger", "one", start(1, "plain", 4)),
                              start(3, "plain", 3, F(1, 57)))
        # With the end of head 3, that of the further list is one too many.
        self.refused("too many events", player.advance_to, (57, 1))

    def test_slow_and_fast(self):
        player = self.playing(start(0, "plain", 0, F(1, 10 ** 30)))
        self.assertEqual(player.next_event(), (4 * 10 ** 30, 1))
        player.do(rate(0, 10 ** 30))
        self.go(player, 1, [(F(4, 10 ** 30), 0, "end", "")])

    def test_next_event_is_the_least_of_all_heads(self):
        player = self.playing(start(0, "plain", 0, 1), start(1, "plain", 0, 2),
                              start(2, "plain", 4, -4), start(3, "plain", 2, 0))
        for expected in [(1, 1), (2, 1), (4, 1)]:
            self.assertEqual(player.next_event(), expected)
            player.advance_to(expected)
        self.assertIsNone(player.next_event())

    def test_next_event_changes_nothing(self):
        player = self.playing(start(0, "lamp"))
        before = player.state, player.events
        self.assertEqual(player.next_event(), player.next_event())
        self.assertEqual((player.state, player.events), before)


class Looking(Players):
    def test_the_state_is_a_tuple_of_tuples(self):
        player = self.playing(start(0, "lamp", 1, F(1, 2), 3), start(3, "both"))
        self.assertEqual(player.state, ((0, 1), (("lamp", (1, 1), (1, 2), 3), None, None,
                                                 ("both", (0, 1), (1, 1), 0)),
                                        (("rope", (9, 2)), ("lamp", (-3, 1)), ("door", (5, 1)))))
        hash(player.state)

    def test_the_events_in_order(self):
        player = self.playing(start(0, "lamp"))
        first = player.advance_to((1, 1))
        second = player.advance_to((2, 1))
        third = player.do(start(1, "plain", 4))
        self.assertEqual(player.events, first + second + third)
        self.assertEqual(list(player), player.events)
        self.assertEqual(len(player), 4)

    def test_lists_are_new_each_time(self):
        player = self.playing(start(0, "lamp"), start(1, "plain"))
        found = player.advance_to((2, 1))
        events, history = player.events, player.history
        for each in (found, events, history):
            each.clear()
        self.assertEqual(len(player.events), 3)
        self.assertEqual(len(player.history), 2)
        self.assertEqual(len(player), 3)
        player.events.append(1)
        player.history.append(1)
        self.assertEqual((len(player), len(player.history)), (3, 2))

    def test_is_there_a_trigger(self):
        player = self.playing(("trigger", "one", ("stop", 0)), ("trigger", "none_such", rate(0, 1)),
                              ("trigger", "two", None))
        self.assertIn("one", player)
        self.assertIn("none_such", player)
        for other in ["two", "three", "", "start", None, 0, True, (), [], {}, ["one"], ("one",),
                      {"one"}, b"one", 1.5, object(), player, ANY]:
            self.assertNotIn(other, player)

    def test_equal_players(self):
        self.assertEqual(new_player(), new_player())
        first = self.playing(start(0, "lamp"), start(1, "plain"), ("trigger", "a", ("stop", 0)),
                             ("trigger", "b", ("stop", 1)))
        second = self.playing(("trigger", "b", ("stop", 1)), ("trigger", "a", ("stop", 3)),
                              ("trigger", "a", ("stop", 0)), start(1, "plain"), start(0, "lamp"),
                              ("trigger", "c", ("stop", 0)), ("trigger", "c", None))
        self.assertEqual(first, second)
        self.assertFalse(first != second)
        self.assertNotEqual(first.history, second.history)

    def test_players_that_are_not_equal(self):
        base = [start(0, "lamp")]
        player = self.playing(*base)
        self.assertNotEqual(player, new_player())
        self.assertNotEqual(player, self.playing(*base, start(1, "plain", 1)))
        self.assertNotEqual(player, self.playing(start(0, "lamp", 0, 1, 1)))
        self.assertNotEqual(player, self.playing(start(0, "lamp", 0, 2)))
        self.assertNotEqual(player, self.playing(*base, ("trigger", "x", ("stop", 0))))
        self.assertNotEqual(self.playing(("trigger", "x", ("stop", 1))),
                            self.playing(("trigger", "x", ("stop", 0))))
        self.assertNotEqual(new_player(), Player(CLIPS[:5], RESTS))
        self.assertNotEqual(new_player(), Player(CLIPS, RESTS[::-1]))
        self.assertNotEqual(new_player(), Player(CLIPS, (*RESTS, ("zzz", (0, 1)))))
        self.assertNotEqual(Player(CLIPS[:1], RESTS), Player((("other", CLIPS[0][1]),), RESTS))
        # The same values in pieces that could be one, and another time.
        self.assertNotEqual(Player((("a", PLAIN),), RESTS), Player((("a", SPLIT),), RESTS))
        later = new_player()
        later.advance_to((1, 1))
        self.assertNotEqual(later, new_player())

    def test_other_events_and_values(self):
        # The same state, but an end more.
        first, second = new_player(), new_player()
        first.do(start(0, "plain", 4))
        second.do(start(0, "plain", 4, -1))
        second.do(("stop", 0))
        self.assertEqual(first.state, second.state)
        self.assertNotEqual(first, second)
        third = self.playing(start(0, "plain", 3), ("stop", 0))
        self.assertEqual(third.events, second.events)
        self.assertNotEqual(third, second)

    def test_values_of_other_kinds(self):
        player = new_player()
        self.assertIs(player.__eq__(1), NotImplemented)
        self.assertIs(player.__eq__(None), NotImplemented)
        self.assertIs(player.__eq__(player.state), NotImplemented)
        self.assertNotEqual(player, "player")

    def test_no_hash(self):
        with self.assertRaises(TypeError):
            hash(new_player())

    def test_properties_without_setters(self):
        player = new_player()
        for name in ("time", "events", "history", "state"):
            self.assertIsInstance(vars(Player)[name], property)
            with self.assertRaises(AttributeError):
                setattr(player, name, 1)

    def test_all_is_defined_here(self):
        for name in ["value", "speed", "do", "advance_to", "next_event", "without", "__len__",
                     "__iter__", "__contains__", "__eq__"]:
            self.assertIn(name, vars(Player))
        self.assertEqual((Player.__module__, replayed.__module__), (players.__name__,) * 2)

    def test_the_names_of_the_arguments(self):
        player = Player(clips=CLIPS, rests=RESTS)
        player.do(command=start(0, "lamp"))
        player.advance_to(time=(1, 1))
        self.assertEqual((player.value(prop="lamp"), player.speed(prop="lamp")), ((1, 1), (1, 1)))
        self.assertEqual(player.without(index=0).history, [])
        again = replayed(clips=CLIPS, rests=RESTS, history=player.history, time=(1, 1))
        self.assertEqual(again, player)


class Histories(Players):
    def show(self):
        player = self.playing(start(0, "lamp", 0, 1, 1), ("trigger", "two", start(1, "door", 3)))
        player.advance_to((3, 2))
        player.do(start(2, "plain", 0, 2))
        player.advance_to((5, 2))
        player.do(("stop", 2))
        player.advance_to((7, 1))
        return player

    def test_it_is_equal_to_the_player(self):
        player = self.show()
        again = replayed(CLIPS, RESTS, player.history, player.time)
        self.assertEqual(again, player)
        self.assertEqual((again.history, again.events), (player.history, player.events))
        self.assertIsNot(again, player)

    def test_up_to_an_earlier_or_a_later_time(self):
        player = self.show()
        again = replayed(CLIPS, RESTS, player.history, (9, 1))
        player.advance_to((9, 1))
        self.assertEqual(again, player)
        self.assertEqual(replayed(CLIPS, RESTS, [], (0, 1)), new_player())
        self.assertEqual(replayed(CLIPS, RESTS, player.history[:2], (1, 1)).events,
                         [((1, 1), 0, "mark", "one")])

    def test_commands_with_faults_are_left_out(self):
        history = [((0, 1), ("stop", 0)), ((0, 1), start(0, "lamp")), ((1, 1), rate(7, 1)),
                   ((1, 1), start(1, "none")), ((1, 1), start(1, "plain", 9)), ((2, 1), ("stop", 0)),
                   ((2, 1), ("stop", 0))]
        player = replayed(CLIPS, RESTS, history, (3, 1))
        self.assertEqual(player.history, [history[1], history[5]])
        self.assertEqual(player.time, (3, 1))

    def test_what_is_more_than_forty_is_left_out(self):
        history = [((at, 1), ("trigger", "t" + str(at), ("stop", 0))) for at in range(45)]
        history.insert(3, ((3, 1), ("stop", 0)))
        player = replayed(CLIPS, RESTS, history, (50, 1))
        self.assertEqual(player.history, history[:3] + history[4:41])
        self.assertIn("t39", player)
        self.assertNotIn("t40", player)

    def test_too_many_events_in_a_step(self):
        busy = ((0, 1), start(0, "plain", 0, 4, 500))
        still = ((100, 1), ("trigger", "x", None))
        self.assertEqual(len(replayed(CLIPS, RESTS, [busy, still], (200, 1))), 200)
        self.refused("too many events", replayed, CLIPS, RESTS, [busy], (101, 1))
        self.refused("too many events", replayed, CLIPS, RESTS, [busy, ((101, 1), still[1])], (101, 1))
        self.refused("too many events", replayed, CLIPS, RESTS, [busy, still], (201, 1))

    def test_the_history_is_not_changed(self):
        history = [((0, 1), ("stop", 0)), ((0, 1), start(0, "lamp"))]
        before = copy.deepcopy(history)
        player = replayed(CLIPS, RESTS, history, (3, 1))
        player.do(("stop", 0))
        self.assertEqual(history, before)
        history.clear()
        self.assertEqual(len(player.history), 2)

    def test_without_one_entry(self):
        player = self.show()
        without_start = player.without(0)
        self.assertEqual(without_start.time, (7, 1))
        # Without the head 0 there is no marker that starts head 1.
        self.assertEqual(without_start.events, [])
        self.assertEqual(without_start.history, player.history[1:])
        self.assertEqual(without_start.value("lamp"), (8, 1))
        without_stop = player.without(3)
        self.assertEqual(without_stop.history, player.history[:3])
        self.assertIn(((7, 2), 2, "end", ""), without_stop.events)
        self.assertEqual(player, self.show())

    def test_without_an_entry_others_get_faults(self):
        player = self.show()
        found = player.without(2)
        self.assertEqual(found.history, player.history[:2])

    def test_no_such_entry(self):
        player = self.show()
        for index in [-1, -4, 4, 5, 10 ** 20]:
            self.refused("no such entry", player.without, index)
        self.refused("no such entry", new_player().without, 0)

    def test_without_an_entry_there_are_too_many_events(self):
        player = self.playing(start(0, "plain", 0, 4, 500), rate(0, 0))
        player.advance_to((101, 1))
        self.refused("too many events", player.without, 1)
        self.refused("no such entry", player.without, 2)
        self.assertEqual(player.without(0).history, [])
        # Steps of the player itself do not matter, only those from entry to entry.
        player = self.playing(("trigger", "x", None), start(0, "plain", 0, 4, 500))
        player.advance_to((100, 1))
        player.advance_to((150, 1))
        self.refused("too many events", player.without, 0)


if __name__ == "__main__":
    unittest.main()
