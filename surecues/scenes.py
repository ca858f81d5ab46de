"""Scenes: what is surely shown at moments that are not yet known."""

from surecues.errors import SceneError
from surecues.limits import SHOWS
from surecues.numbers import minus
from surecues.ordering import all_within
from surecues.showings import extremes_of, points_of, show_named, shown_at


class Scene:
    """A scene without shows, which uses a book as it is at each time."""

    def __init__(self, book):
        self._book = book
        self._shows = []

    @property
    def book(self):
        """The book that the scene uses."""
        return self._book

    @property
    def shows(self):
        """The tuples (name, clip, prop, cue) of all shows."""
        return list(self._shows)

    def show(self, name, clip, prop, cue):
        """Adds a show."""
        if show_named(self._shows, name) is not None:
            raise SceneError("named twice")
        if prop not in dict(clip[1]):
            raise SceneError("unknown property")
        if cue not in self._book:
            raise SceneError("unknown moment")
        if len(self._shows) >= SHOWS:
            raise SceneError("too many shows")
        self._shows.append((name, clip, prop, cue))

    def value(self, name, moment, fit):
        """What a show has at a moment in a fit."""
        show = self._find(name, moment)
        times = dict(fit)
        return shown_at(show, minus(times[moment], times[show[3]]))

    def bounds(self, name, moment):
        """The least and the greatest value that a show has at a moment in the fits."""
        show = self._find(name, moment)
        return extremes_of(show, self._book.span(show[3], moment))

    def witness(self, name, moment, *, greatest=False):
        """The fit with the least number at which a show has its least or its greatest value."""
        show = self._find(name, moment)
        span = self._book.span(show[3], moment)
        least_bound, greatest_bound = extremes_of(show, span)
        bound = greatest_bound if greatest else least_bound
        places = [place for place in points_of(show, span) if shown_at(show, place) == bound]
        return self._book.fit_with(show[3], moment, places[0])

    def says(self, name, moment, low, high):
        """Whether a show surely lies from low to high: True, False if surely not, or None."""
        return all_within(self.bounds(name, moment), low, high)

    def settled(self, name, moment, low, high, facts):
        """How many facts have to be told until the scene does not say None, or None."""
        branch = self._book.branch()
        twin = Scene(branch)
        twin._shows = list(self._shows)
        if twin.says(name, moment, low, high) is not None:
            return 0
        for count, fact in enumerate(facts, start=1):
            branch.tell(*fact)
            if twin.says(name, moment, low, high) is not None:
                return count
        return None

    def _find(self, name, moment):
        """The show with this name, if this moment and its cue are in the book."""
        show = show_named(self._shows, name)
        if show is None:
            raise SceneError("unknown show")
        if moment not in self._book or show[3] not in self._book:
            raise SceneError("unknown moment")
        return show
