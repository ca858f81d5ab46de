"""Players: they play clips on four heads, and do commands when markers are reached."""

from surecues.errors import PlayError
from surecues.limits import COMMANDS
from surecues.numbers import compare
from surecues.stages import Stage


class Player:
    """A player of these clips, whose properties rest at these values."""

    def __init__(self, clips, rests):
        self._clips = clips
        self._rests = rests
        self._stage = Stage(dict(clips), rests)
        self._events = []
        self._history = []

    @property
    def time(self):
        """The time up to which the player has gone on."""
        return self._stage.now

    @property
    def events(self):
        """All events up to its time."""
        return list(self._events)

    @property
    def history(self):
        """The pairs (time, command) of all commands that were done."""
        return list(self._history)

    @property
    def state(self):
        """The tuple (time, heads, values)."""
        values = tuple([(prop, self._stage.value(prop)) for prop, _ in self._rests])
        return self._stage.now, tuple(self._stage.heads), values

    def value(self, prop):
        """The value of a property."""
        return self._stage.value(prop)

    def speed(self, prop):
        """The speed of a property."""
        return self._stage.speed(prop)

    def do(self, command):
        """Does a command at the time of the player; returns the events that follow at once."""
        what = self._stage.fault_of(command)
        if what is None and len(self._history) >= COMMANDS:
            what = "too many commands"
        if what is not None:
            raise PlayError(what)
        self._history.append((self.time, command))
        self._stage.perform(command)
        found = self._stage.happen([])
        self._events.extend(found)
        return found

    def advance_to(self, time):
        """Goes on to a time; returns the events up to it."""
        if compare(time, self.time) < 0:
            raise PlayError("not later")
        # Another stage goes on, so that nothing is changed if there are too many events.
        stage = self._stage.copied()
        found = stage.advance(time)
        self._stage = stage
        self._events.extend(found)
        return found

    def next_event(self):
        """The time of the next event if no command is done, or None."""
        return self._stage.next_time()

    def without(self, index):
        """The player that would be here if one entry of the history were not."""
        if not 0 <= index < len(self._history):
            raise PlayError("no such entry")
        history = self._history[:index] + self._history[index + 1:]
        return replayed(self._clips, self._rests, history, self.time)

    def __len__(self):
        return len(self._events)

    def __iter__(self):
        return iter(self._events)

    def __contains__(self, name):
        return isinstance(name, str) and name in self._stage.triggers

    def __eq__(self, other):
        if not isinstance(other, Player):
            return NotImplemented
        return self._compared() == other._compared()

    def _compared(self):
        """All that two players have to have alike to be equal."""
        return self._clips, self._rests, self.state, self._stage.triggers, self._events


def replayed(clips, rests, history, time):
    """The player that did a history, and then went on to a time."""
    player = Player(clips, rests)
    for moment, command in history:
        player.advance_to(moment)
        try:
            player.do(command)
        except PlayError:
            # It has a fault now, so it is left out.
            continue
    player.advance_to(time)
    return player
