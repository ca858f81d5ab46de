"""What a player has at its time: heads, triggers and values; what happens while time goes on.

A head is at its end only between perform and the call of happen that follows it.
"""

from surecues.clips import slope_at, value_at
from surecues.errors import PlayError
from surecues.heads import behind_end, gone_on, is_at_end, markers_reached, time_to_event
from surecues.limits import EVENTS, HEADS
from surecues.numbers import ZERO, compare, minus, plus, times
from surecues.ordering import ascending, is_within


class Stage:
    """Heads that play clips of a dict, at a time."""

    def __init__(self, clips, rests):
        self.clips = clips
        self.now = ZERO
        self.heads = [None] * HEADS
        # The value with which each property was shown last, as far as it is needed.
        self.kept = dict(rests)
        self.triggers = {}

    def copied(self):
        """A stage of its own that is like this one."""
        twin = Stage(self.clips, self.kept)
        twin.now = self.now
        twin.heads = list(self.heads)
        twin.triggers = dict(self.triggers)
        return twin

    def value(self, prop):
        """The value of a property."""
        head = self._head_that_shows(prop)
        if head is None:
            return self.kept[prop]
        return value_at(self.clips[head[0]], prop, head[1])

    def speed(self, prop):
        """The speed of a property."""
        head = self._head_that_shows(prop)
        if head is None:
            return ZERO
        name, position, rate, _ = head
        back = compare(rate, ZERO) < 0
        return times(rate, slope_at(self.clips[name], prop, position, back=back))

    def fault_of(self, command):
        """What is wrong with a command, or None."""
        if command[0] == "trigger":
            return None
        if not 0 <= command[1] < HEADS:
            return "no such head"
        if command[0] == "start":
            return self._fault_of_start(command)
        return "not playing" if self.heads[command[1]] is None else None

    def perform(self, command):
        """Does a command without a fault; a head that is at its end then is left there."""
        word, at = command[0], command[1]
        if word == "trigger":
            self._set_trigger(command[1], command[2])
            return
        self._keep_values()
        if word == "start":
            self.heads[at] = command[2:]
        elif word == "rate":
            name, position, _, rounds = self.heads[at]
            self.heads[at] = (name, position, command[2], rounds)
        else:
            self.heads[at] = None

    def next_time(self):
        """The time of the next event, or None."""
        waits = [time_to_event(head, self.clips[head[0]]) for _, head in self._playing()]
        times_left = ascending([wait for wait in waits if wait is not None])
        return plus(self.now, times_left[0]) if times_left else None

    def advance(self, time):
        """Goes on to a time that is not earlier; returns the events up to it."""
        events = []
        due = self.next_time()
        while due is not None and compare(due, time) <= 0:
            marks = self._go_on(due)
            events.extend(self.happen(marks))
            if len(events) > EVENTS:
                raise PlayError("too many events")
            due = self.next_time()
        self._go_on(time)
        return events

    def happen(self, marks):
        """Deals with markers that were reached at this time, and with ends; returns the events."""
        events = []
        listed = self._listed(marks)
        while listed:
            self._turn_heads()
            self._pull_triggers(listed)
            events.extend(listed)
            # The commands of triggers may have put heads at their ends.
            listed = self._listed([])
        return events

    def _head_that_shows(self, prop):
        for head in reversed(self.heads):
            if head is not None and prop in dict(self.clips[head[0]][1]):
                return head
        return None

    def _playing(self):
        """Pairs of the number of a head that plays and the head."""
        return [(at, head) for at, head in enumerate(self.heads) if head is not None]

    def _fault_of_start(self, command):
        _, _, name, position, _, _ = command
        if name not in self.clips:
            return "no such clip"
        if not is_within(position, ZERO, self.clips[name][0]):
            return "outside the clip"
        return None

    def _set_trigger(self, name, command):
        if command is None:
            self.triggers.pop(name, None)
        else:
            self.triggers[name] = command

    def _keep_values(self):
        """Keeps all values as they are, ahead of a change of heads that may show them no more."""
        self.kept = {prop: self.value(prop) for prop in self.kept}

    def _go_on(self, time):
        """Brings all heads to a time; returns the events of the markers that they reach then."""
        passed = minus(time, self.now)
        self.now = time
        marks = []
        for at, head in self._playing():
            self.heads[at] = gone_on(head, passed)
            names = markers_reached(head, self.heads[at], self.clips[head[0]])
            marks.extend([(time, at, "mark", name) for name in names])
        return marks

    def _at_ends(self):
        """Pairs of the number of a head that is at its end and the head."""
        return [(at, head) for at, head in self._playing() if is_at_end(head, self.clips[head[0]])]

    def _listed(self, marks):
        """The marks, and the loops and ends that are due, head by head, in the order of events."""
        ends = [(self.now, at, "loop" if head[3] > 0 else "end", "") for at, head in self._at_ends()]
        return sorted(marks + ends, key=lambda event: event[1])

    def _turn_heads(self):
        """Lets all loops and ends happen."""
        self._keep_values()
        for at, head in self._at_ends():
            self.heads[at] = behind_end(head, self.clips[head[0]])

    def _pull_triggers(self, listed):
        """Does the commands of the triggers of these events; those with a fault are left out."""
        for _, _, kind, name in listed:
            command = self.triggers.get(name) if kind == "mark" else None
            if command is not None and self.fault_of(command) is None:
                self.perform(command)
