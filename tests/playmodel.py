"""A player for the tests, reckoned with Fraction: each head keeps where and when it was set off.

It has the state and the events of promises [12] to [17], worked out in another way than by the
program: the position of a head is told by the time since it was set off last.
"""

from fractions import Fraction

import clipmodel
from clipmodel import pair


class Head:
    def __init__(self, name, clip, now, position, rate, rounds):
        self.name, self.clip, self.rounds = name, clip, rounds
        self.set_off(now, position, rate)

    def set_off(self, now, position, rate):
        self.since, self.origin, self.rate = now, position, rate

    def position(self, now):
        return self.origin + self.rate * (now - self.since)

    def length(self):
        return Fraction(*self.clip[0])

    def stops(self, now):
        """Pairs (time, name) of markers and ends, name None for an end, from this time on."""
        if self.rate == 0:
            return []
        rows = [(place, name) for place, name in clipmodel.markers(self.clip)]
        rows.append((self.length() if self.rate > 0 else Fraction(0), None))
        found = [(self.since + (place - self.origin) / self.rate, name) for place, name in rows]
        # A marker at the place where it was set off is none that it comes to.
        return [(time, name) for time, name in found
                if time >= now and (name is None or time > self.since)]


class Model:
    def __init__(self, clips, rests):
        self.clips = dict(clips)
        self.rests = rests
        self.last = {prop: Fraction(*value) for prop, value in rests}
        self.now = Fraction(0)
        self.heads = [None] * 4
        self.triggers = {}
        self.events = []

    def value(self, prop):
        for head in self.heads[::-1]:
            if head is not None and prop in clipmodel.props(head.clip):
                self.last[prop] = clipmodel.value(head.clip, prop, head.position(self.now))
                break
        return self.last[prop]

    def speed(self, prop):
        for head in self.heads[::-1]:
            if head is not None and prop in clipmodel.props(head.clip):
                slopes = clipmodel.slopes(head.clip, prop, head.position(self.now))
                return head.rate * slopes[head.rate > 0]
        return Fraction(0)

    def look(self):
        """Looks at all values, so that the last ones that were shown are known."""
        for prop, _ in self.rests:
            self.value(prop)

    def state(self):
        heads = [head and (head.name, pair(head.position(self.now)), pair(head.rate), head.rounds)
                 for head in self.heads]
        values = [(prop, pair(self.value(prop))) for prop, _ in self.rests]
        return pair(self.now), tuple(heads), tuple(values)

    def fault(self, command):
        if command[0] == "trigger":
            return None
        if command[1] not in (0, 1, 2, 3):
            return "no such head"
        if command[0] != "start":
            return None if self.heads[command[1]] else "not playing"
        if command[2] not in self.clips:
            return "no such clip"
        inside = 0 <= Fraction(*command[3]) <= Fraction(*self.clips[command[2]][0])
        return None if inside else "outside the clip"

    def act(self, command):
        """Does a command, if it has no fault."""
        if self.fault(command) is not None:
            return
        self.look()
        if command[0] == "start":
            _, at, name, place, rate, rounds = command
            self.heads[at] = Head(name, self.clips[name], self.now, Fraction(*place),
                                  Fraction(*rate), rounds)
        elif command[0] == "rate":
            head = self.heads[command[1]]
            head.set_off(self.now, head.position(self.now), Fraction(*command[2]))
        elif command[0] == "stop":
            self.heads[command[1]] = None
        elif command[2] is None:
            self.triggers.pop(command[1], None)
        else:
            self.triggers[command[1]] = command[2]
        self.look()

    def do(self, command):
        self.act(command)
        return self.lists(False)

    def due(self):
        """The times at which something happens, from now on."""
        return [time for head in self.heads if head for time, _ in head.stops(self.now)]

    def advance_to(self, time):
        time = Fraction(*time)
        found = []
        due = [each for each in self.due() if self.now < each <= time]
        while due:
            self.now = min(due)
            found += self.lists(True)
            due = [each for each in self.due() if self.now < each <= time]
        self.now = time
        return found

    def lists(self, with_marks):
        """Deals with all lists of events of this time."""
        self.look()
        rows = []
        for at, head in enumerate(self.heads):
            here = [name for time, name in head.stops(self.now) if time == self.now] if head else []
            if with_marks:
                rows += [(at, "mark", name) for name in sorted(filter(None, here))]
            if None in here:
                rows.append((at, "loop" if head.rounds else "end", ""))
        if not rows:
            return []
        for at, kind, _ in rows:
            if kind == "end":
                self.heads[at] = None
            elif kind == "loop":
                head = self.heads[at]
                head.rounds -= 1
                head.set_off(self.now, Fraction(0) if head.rate > 0 else head.length(), head.rate)
        self.look()
        for _, kind, name in rows:
            if kind == "mark" and name in self.triggers:
                self.act(self.triggers[name])
        found = [(pair(self.now), *row) for row in rows]
        self.events += found
        return found + self.lists(False)

    def next_event(self):
        due = [time for time in self.due() if time > self.now]
        return pair(min(due)) if due else None
