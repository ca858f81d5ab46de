"""Books of moments that are not yet known, and of the facts that are told about them."""

from surecues.chains import lengths_to, rows_of, shortest_chain, turned
from surecues.errors import BookError
from surecues.limits import FACTS, GREAT, MOMENTS
from surecues.numbers import ZERO, compare, minus, negative
from surecues.ordering import all_within, is_within

START = "start"


class Book:
    """A book with the moment start alone."""

    def __init__(self):
        self._moments = [START]
        self._facts = []
        # The names of the deeds; each of them has told the fact with its number.
        self._deeds = []

    @property
    def moments(self):
        """The names of all moments."""
        return list(self._moments)

    @property
    def facts(self):
        """All facts, in the order of their numbers."""
        return list(self._facts)

    def add(self, name, least, most):
        """Adds a moment and the fact from start to it; returns the number of the fact."""
        if name in self._moments:
            raise BookError("named twice", [])
        _check_span(least, most)
        if len(self._moments) > MOMENTS:
            raise BookError("too many moments", [])
        self._check_room()
        self._moments.append(name)
        return self._tell_fact("add", (START, name, least, most))

    def tell(self, first, second, least, most):
        """Adds a fact; returns its number."""
        self._check_moments(first, second)
        if first == second:
            raise BookError("same moment", [])
        _check_span(least, most)
        self._check_room()
        self._check_agreement(first, second, least, most)
        return self._tell_fact("tell", (first, second, least, most))

    def undo(self):
        """Takes back the last deed; returns its name, or False if there is none."""
        if not self._deeds:
            return False
        self._facts.pop()
        name = self._deeds.pop()
        if name == "add":
            self._moments.pop()
        return name

    def span(self, first, second):
        """The least and the greatest number that passes between two moments in a fit."""
        self._check_moments(first, second)
        rows = rows_of(self._facts)
        forth, _ = lengths_to(rows, second)[first]
        back, _ = lengths_to(rows, first)[second]
        return negative(back), forth

    def chain(self, first, second):
        """The shortest chain from a moment to another one."""
        self._check_moments(first, second)
        return shortest_chain(self._facts, first, second)

    def earliest(self):
        """The fit in which each moment has its least time."""
        return self._earliest_with(self._facts)

    def latest(self):
        """The fit in which each moment has its greatest time."""
        found = lengths_to(turned(rows_of(self._facts)), START)
        return [(name, found[name][0]) for name in self._moments]

    def fit_with(self, first, second, number):
        """The earliest of the fits in which exactly this number passes between two moments."""
        least, greatest = self.span(first, second)
        if not is_within(number, least, greatest):
            raise BookError("not in the span", [])
        return self._earliest_with([*self._facts, (first, second, number, number)])

    def says(self, first, second, least, most):
        """Whether a fact is true in all fits: True, False if it is true in none, or None."""
        return all_within(self.span(first, second), least, most)

    def is_fit(self, fit):
        """Tells whether a list of pairs of a name and a number is a fit."""
        if [name for name, _ in fit] != self._moments:
            return False
        times = dict(fit)
        return times[START] == ZERO and all([_is_true(fact, times) for fact in self._facts])

    def branch(self):
        """A new book that is like this one."""
        twin = Book()
        twin._moments = list(self._moments)
        twin._facts = list(self._facts)
        twin._deeds = list(self._deeds)
        return twin

    def __len__(self):
        return len(self._moments[1:])

    def __contains__(self, name):
        return isinstance(name, str) and name in self._moments

    def __eq__(self, other):
        if not isinstance(other, Book):
            return NotImplemented
        return self._moments == other._moments and self._facts == other._facts

    def _tell_fact(self, deed, fact):
        self._facts.append(fact)
        self._deeds.append(deed)
        return len(self._facts) - 1

    def _earliest_with(self, facts):
        """The earliest of the times that make all these facts true."""
        found = lengths_to(rows_of(facts), START)
        return [(name, negative(found[name][0])) for name in self._moments]

    def _check_moments(self, first, second):
        if first not in self._moments or second not in self._moments:
            raise BookError("unknown moment", [])

    def _check_room(self):
        if len(self._facts) >= FACTS:
            raise BookError("too many facts", [])

    def _check_agreement(self, first, second, least, most):
        """Refuses a fact that no fit makes true, with the chain that tells why."""
        shortest, longest = self.span(first, second)
        if compare(longest, least) < 0:
            raise BookError("contradiction", self.chain(first, second))
        if compare(shortest, most) > 0:
            raise BookError("contradiction", self.chain(second, first))


def _check_span(least, most):
    if compare(least, most) > 0:
        raise BookError("wrong span", [])
    if _is_too_great(least) or _is_too_great(most):
        raise BookError("too great", [])


def _is_too_great(value):
    top, bottom = value
    return bottom > GREAT or abs(top) > GREAT * bottom


def _is_true(fact, times):
    """Tells whether a fact is true if the moments have these times."""
    first, second, least, most = fact
    return is_within(minus(times[second], times[first]), least, most)
