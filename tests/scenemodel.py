"""Scenes for the tests: what shows have at numbers, and claims that hold, reckoned with Fraction."""

import random
from fractions import Fraction

import bookmodel
import clipmodel
from clipmodel import HILL, SAMPLES, STEPS, clip, pair, split, track
from surecues.clips import normal
from surecues.scenes import Scene

F = Fraction
# A lamp that goes up to 4 at 2 and back to 0 at 4; another one that jumps about between levels.
HILL_CLIP = clip({"lamp": HILL})
LEVELS = clip({"lamp": track(1, (1, 0, 0), (1, 3, 0), (2, 0, 0), (1, -5, 0), (1, 0, 0))})
CUT_HILL = split(HILL_CLIP, "lamp", 1, F(5, 2))
CLIPS = [HILL_CLIP, LEVELS, CUT_HILL, clip({"lamp": STEPS}), SAMPLES["short"],
         clip({"lamp": track(2, (3, F(-1, 2), F(1, 3)))})]


def place_in(show, number):
    return min(max(F(number), F(0)), F(*show[1][0]))


def value(show, number):
    return clipmodel.value(show[1], show[2], place_in(show, number))


def extremes(show, low, high):
    return clipmodel.extremes(show[1], show[2], place_in(show, low), place_in(show, high))


def points(show, low, high):
    """The points of [34]."""
    found = {F(0), F(*show[1][0])}
    for start, stop, _, b, c in clipmodel.formulas(dict(normal(show[1])[1])[show[2]]):
        found.add(start)
        if c != 0 and start < start - b / (2 * c) < stop:
            found.add(start - b / (2 * c))
    return [low, *sorted(point for point in found if low < point < high), high]


def open_numbers(show, low, high, limits):
    """The two numbers of [34] for an answer open about a value."""
    def side(number):
        return (value(show, number) > limits[1]) - (value(show, number) < limits[0])
    rows = points(show, low, high)
    outside = next(point for point in rows if side(point) != 0)
    for point in rows:
        if side(point) == 0:
            return point, outside
    first, second = next((one, other) for one, other in zip(rows, rows[1:])
                         if side(one) * side(other) < 0)
    middle = (first + second) / 2
    while side(middle) != 0:
        if side(middle) == side(first):
            first = middle
        else:
            second = middle
        middle = (first + second) / 2
    return middle, outside


def says(least, greatest, low, high):
    if low <= least and greatest <= high:
        return True
    return False if greatest < low or least > high else None


def holds(scene, claim):
    """Tells whether a claim holds, by [33]."""
    word, question, paper = claim
    book, shows = scene.book, {show[0]: show for show in scene.shows}
    if question[0] == "span":
        show, (first, second, low, high) = None, question[1]
    else:
        show = shows.get(question[1])
        if show is None:
            return False
        first, (second, low, high) = show[3], question[2:]
    low, high = F(*low), F(*high)
    if first not in book.moments or second not in book.moments:
        return False
    if word == "open":
        if not all(bookmodel.is_fit(book.moments, book.facts, fit) for fit in paper):
            return False
        found = [bookmodel.passed(fit, first, second) for fit in paper]
        found = [number if show is None else value(show, number) for number in found]
        return low <= found[0] <= high and not low <= found[1] <= high
    if word not in ("always", "never"):
        return False
    greatest = bookmodel.length(book.facts, paper[0], first, second)
    least = bookmodel.length(book.facts, paper[1], second, first)
    if greatest is None or least is None:
        return False
    span = (-least, greatest)
    return says(*(span if show is None else extremes(show, *span)), low, high) is (word == "always")


def random_scene(seed, moments=3, facts=3):
    """A scene with a book and a show of each of three clips."""
    source = random.Random(seed)
    scene = Scene(bookmodel.random_book(seed, moments, facts))
    for name in ("one", "two", "three"):
        scene.show(name, source.choice(CLIPS), "lamp", source.choice(scene.book.moments))
    return scene


def random_question(scene, source):
    low = F(source.randrange(-12, 16), source.choice([1, 2, 3]))
    high = low + F(source.randrange(1, 24), source.choice([1, 2, 5, 30]))
    if source.random() < 0.4:
        return "span", (*source.sample(scene.book.moments, 2), pair(low), pair(high))
    return "value", source.choice(scene.shows)[0], source.choice(scene.book.moments), pair(low), pair(high)
