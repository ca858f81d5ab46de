"""Promises [12] to [20]: random shows, beside the model and beside themselves."""

import random
import unittest
from fractions import Fraction

import playmodel
from clipmodel import SAMPLES, clip, is_number, pair, track
from surecues.errors import PlayError
from surecues.players import Player, replayed

F = Fraction
# Lengths, markers and rates that go together often, so that much happens at the same time.
CLIPS = tuple(sorted({
    "up": clip({"lamp": track(0, (2, 1, 0))}, [(0, "a"), (1, "b"), (1, "c"), (2, "d")]),
    "wave": clip({"door": track(1, (1, 4, -4), (1, 0, 1)), "lamp": track(0, (1, 0, 3), (1, -3, 0))},
                 [(F(1, 2), "a"), (1, "d"), (F(3, 2), "e")]),
    "bare": clip({"fog": track(5, (1, 0, 0))}),
    "long": clip({"bell": track(0, (4, F(1, 3), F(-1, 7))), "door": track(2, (1, 1, 0), (3, -1, 0))},
                 [(1, "c"), (2, "b"), (3, "a"), (4, "e")]),
}.items()))
RESTS = (("rope", (7, 3)), ("lamp", (-1, 1)), ("fog", (0, 1)), ("door", (1, 2)), ("bell", (9, 1)))
PROPS = [prop for prop, _ in RESTS]
RATES = [F(0), F(1), F(1), F(-1), F(2), F(-2), F(1, 2), F(-1, 2), F(3, 2), F(5, 7)]


def random_command(source, trigger=True):
    word = source.choice(["start", "start", "start", "rate", "rate", "stop", "trigger", "trigger"])
    head = source.choice([0, 1, 2, 3, 0, 1, 2, 3, 0, 1, 2, 3, 4, -1])
    if word == "trigger" and trigger:
        action = None if source.random() < 0.1 else random_command(source, False)
        return word, source.choice("abcde"), action
    if word == "stop":
        return word, head
    if word == "rate":
        return word, head, pair(source.choice(RATES))
    name, chosen = source.choice(CLIPS)
    length = F(*chosen[0])
    place = source.choice([F(0), length / 4, length / 2, length, length * 3 / 4, length + 1, F(-1, 5)])
    name = source.choice([name] * 12 + ["none"])
    return "start", head, name, pair(place), pair(source.choice(RATES)), source.choice([0, 1, 1, 2, 3])


def random_times(source, count, highest=6):
    return sorted(F(source.randrange(0, highest * 4), source.choice([1, 2, 4, 3]) * 2)
                  for _ in range(count))


def a_show(seed, count):
    """A history as it was wished, some of its commands with faults, and a time behind it."""
    source = random.Random(seed)
    times = random_times(source, count)
    history = [(pair(time), random_command(source)) for time in times]
    return history, pair(times[-1] + source.choice([0, 1, F(7, 3), 5]))


def played(history, time):
    """A player that did as much of a history as it does."""
    player = Player(CLIPS, RESTS)
    for moment, command in history:
        player.advance_to(moment)
        try:
            player.do(command)
        except PlayError:
            pass
    player.advance_to(time)
    return player


class Shows(unittest.TestCase):
    def same(self, player, model):
        self.assertEqual(player.state, model.state())
        self.assertEqual(player.time, pair(model.now))
        for prop in PROPS:
            self.assertEqual(player.value(prop), pair(model.value(prop)))
            self.assertEqual(player.speed(prop), pair(model.speed(prop)))
            self.assertTrue(is_number(player.speed(prop)))
        self.assertEqual(player.next_event(), model.next_event())
        self.assertEqual(player.events, model.events)
        self.assertEqual([name in player for name in "abcde"],
                         [name in model.triggers for name in "abcde"])

    def go_on(self, player, model, time):
        """Goes on, if there are not too many events; tells whether it did."""
        before = player.state, player.events, player.history, player.next_event()
        try:
            found = player.advance_to(time)
        except PlayError as error:
            self.assertEqual(error.what, "too many events")
            self.assertEqual((player.state, player.events, player.history, player.next_event()), before)
            self.assertGreater(len(model.advance_to(time)), 100)
            return False
        self.assertEqual(found, model.advance_to(time))
        self.assertLessEqual(len(found), 100)
        return True

    def test_beside_the_model(self):
        kinds = {}
        for seed in range(250):
            history, end = a_show(seed, 14)
            player, model = Player(CLIPS, RESTS), playmodel.Model(CLIPS, RESTS)
            done = []
            for moment, command in history:
                if not self.go_on(player, model, moment):
                    break
                fault = model.fault(command)
                if fault is None:
                    self.assertEqual(player.do(command), model.do(command))
                    done.append((moment, command))
                else:
                    with self.assertRaises(PlayError) as caught:
                        player.do(command)
                    self.assertEqual(caught.exception.what, fault)
                self.same(player, model)
                self.assertEqual(player.history, done)
            else:
                if self.go_on(player, model, end):
                    self.same(player, model)
            for event in player:
                kinds[event[2]] = kinds.get(event[2], 0) + 1
        # Enough of each kind happened.
        self.assertGreater(min(kinds[kind] for kind in ("mark", "loop", "end")), 400)

    def test_no_head_is_at_its_end_behind_a_call(self):
        for seed in range(60):
            history, end = a_show(seed, 12)
            player = played(history, end)
            for head in player.state[1]:
                if head is not None:
                    length = dict(CLIPS)[head[0]][0]
                    self.assertFalse(head[1] == length and head[2][0] > 0)
                    self.assertFalse(head[1] == (0, 1) and head[2][0] < 0)

    def test_cut_into_frames(self):
        for seed in range(80):
            source = random.Random(seed)
            history, end = a_show(seed, 10)
            whole = played(history, end)
            player = Player(CLIPS, RESTS)
            found = []
            for moment, command in [*history, (end, None)]:
                for frame in range(source.choice([0, 1, 3, 7])):
                    step = (F(*moment) - F(*player.time)) / source.choice([2, 3, 5])
                    found += player.advance_to(pair(F(*player.time) + step))
                found += player.advance_to(moment)
                try:
                    found += player.do(command) if command else []
                except PlayError:
                    pass
            self.assertEqual(player, whole)
            self.assertEqual(player.state, whole.state)
            self.assertEqual(player.history, whole.history)
            self.assertEqual(found, whole.events)

    def test_from_event_to_event(self):
        for seed in range(60):
            history, end = a_show(seed, 8)
            player, other = played(history, end), played(history, end)
            for step in range(30):
                time = player.next_event()
                if time is None:
                    self.assertEqual(player.advance_to((10 ** 9, 1)), [])
                    break
                self.assertGreater(F(*time), F(*player.time))
                # Nothing happens up to it, and something at it.
                middle = (F(*time) + F(*player.time)) / 2
                self.assertEqual(player.advance_to(pair(middle)), [])
                self.assertEqual(player.next_event(), time)
                found = player.advance_to(time)
                self.assertEqual({event[0] for event in found}, {time})
            other.advance_to(player.time)
            self.assertEqual(player, other)

    def test_replayed_from_the_history(self):
        for seed in range(80):
            history, end = a_show(seed, 12)
            player = played(history, end)
            again = replayed(CLIPS, RESTS, player.history, player.time)
            self.assertEqual(again, player)
            self.assertEqual(again.history, player.history)
            self.assertEqual(again.events, player.events)
            # Those that had a fault are left out, wherever they stand.
            wished = replayed(CLIPS, RESTS, history, end)
            self.assertEqual(wished, player)
            self.assertEqual(wished.history, player.history)

    def test_without_each_entry(self):
        for seed in range(25):
            history, end = a_show(seed, 10)
            player = played(history, end)
            before = player.state, player.events, player.history
            for at in range(len(player.history)):
                rest = player.history
                del rest[at]
                found = player.without(at)
                self.assertEqual(found, played(rest, end))
                self.assertEqual(found.history, played(rest, end).history)
                self.assertEqual(found.time, player.time)
            self.assertEqual((player.state, player.events, player.history), before)

    def test_the_samples_can_be_played(self):
        for name, sample in SAMPLES.items():
            clips = ((name, sample),)
            rests = tuple((prop, (0, 1)) for prop, _ in sample[1])
            player, model = Player(clips, rests), playmodel.Model(clips, rests)
            for head, rate in enumerate([F(1, 3), F(-2, 5), F(1), F(7)]):
                command = ("start", head, name, pair(F(*sample[0]) / 3), pair(rate), 2)
                self.assertEqual(player.do(command), model.do(command))
            for step in range(1, 40):
                time = pair(F(step, 3))
                self.assertEqual(player.advance_to(time), model.advance_to(time))
                self.assertEqual(player.state, model.state())
                for prop, _ in rests:
                    self.assertEqual(player.speed(prop), pair(model.speed(prop)))


if __name__ == "__main__":
    unittest.main()
