"""Papers: answers to questions with all that shows that they are right, and how to judge them."""

from surecues.chains import length_of
from surecues.numbers import TWO, compare, minus, negative, over, plus
from surecues.ordering import all_within, is_within
from surecues.showings import extremes_of, points_of, show_named, shown_at


def answer(scene, question):
    """A claim that holds and answers a question."""
    if question[0] == "span":
        return _answer_span(scene.book, question)
    return _answer_value(scene, question)


def judge(scene, claim):
    """Tells whether a claim holds."""
    word, question, paper = claim
    asked = _read_question(scene, question)
    if asked is None or not isinstance(paper, tuple) or len(paper) != 2:
        return False
    if word == "always":
        return _said_by_chains(scene.book, asked, paper) is True
    if word == "never":
        return _said_by_chains(scene.book, asked, paper) is False
    return word == "open" and _is_open_by_fits(scene.book, asked, paper)


def judge_all(scene, claims):
    """The indices of the claims that do not hold."""
    return [at for at, claim in enumerate(claims) if not judge(scene, claim)]


def _answer_span(book, question):
    first, second, least, most = question[1]
    said = book.says(first, second, least, most)
    if said is not None:
        return _sure_claim(book, said, question, first, second)
    low, high = book.span(first, second)
    is_below = compare(low, least) < 0
    inside = least if is_below else low
    outside = low if is_below else high
    return _open_claim(book, question, first, second, (inside, outside))


def _answer_value(scene, question):
    _, name, moment, low, high = question
    said = scene.says(name, moment, low, high)
    show = show_named(scene.shows, name)
    cue = show[3]
    if said is not None:
        return _sure_claim(scene.book, said, question, cue, moment)
    points = points_of(show, scene.book.span(cue, moment))
    sides = [_side_of(show, point, low, high) for point in points]
    inside = _first_inside(show, points, sides, low, high)
    outside = [point for point, side in zip(points, sides) if side != 0][0]
    return _open_claim(scene.book, question, cue, moment, (inside, outside))


def _sure_claim(book, said, question, first, second):
    """The claim always or never, with the shortest chains."""
    chains = (book.chain(first, second), book.chain(second, first))
    return "always" if said else "never", question, chains


def _open_claim(book, question, first, second, passed):
    """The claim open, with the fits in which these two numbers pass."""
    fits = [book.fit_with(first, second, each) for each in passed]
    return "open", question, tuple(fits)


def _side_of(show, place, low, high):
    """-1, 0 or 1: whether what a show has at a number lies below, within or above the limits."""
    value = shown_at(show, place)
    if compare(value, low) < 0:
        return -1
    return 1 if compare(value, high) > 0 else 0


def _first_inside(show, points, sides, low, high):
    """A number at which the value lies within the limits: a point, or one between two points."""
    if 0 in sides:
        return points[sides.index(0)]
    pairs = [pair for pair in zip(points, points[1:], sides, sides[1:]) if pair[2] != pair[3]]
    first, second, _, _ = pairs[0]
    return _middle_inside(show, first, second, low, high)


def _middle_inside(show, first, second, low, high):
    """A number at which the value lies within the limits, found by halving what lies between two.

    At the one of the two the value lies below the limits, at the other one above them.
    """
    first_side = _side_of(show, first, low, high)
    middle = over(plus(first, second), TWO)
    side = _side_of(show, middle, low, high)
    while side != 0:
        if side == first_side:
            first = middle
        else:
            second = middle
        middle = over(plus(first, second), TWO)
        side = _side_of(show, middle, low, high)
    return middle


def _read_question(scene, question):
    """What a question asks: (first, second, low, high, show), or None if there is no such thing.

    The show is None if the question asks about a fact.
    """
    if question[0] == "span":
        first, second, low, high = question[1]
        show = None
    elif question[0] == "value":
        _, name, second, low, high = question
        show = show_named(scene.shows, name)
        if show is None:
            return None
        first = show[3]
    else:
        return None
    if first not in scene.book or second not in scene.book:
        return None
    return first, second, low, high, show


def _said_by_chains(book, asked, chains):
    """What two chains tell of what is asked: True, False or None; None if they are no chains."""
    first, second, low, high, show = asked
    forth, back = chains
    greatest = length_of(book.facts, forth, first, second)
    least = length_of(book.facts, back, second, first)
    if greatest is None or least is None:
        return None
    span = (negative(least), greatest)
    return all_within(span if show is None else extremes_of(show, span), low, high)


def _is_open_by_fits(book, asked, fits):
    """Tells whether these are a fit in which it is so, and one in which it is not."""
    if not all([book.is_fit(fit) for fit in fits]):
        return False
    return [_is_so_in(asked, fit) for fit in fits] == [True, False]


def _is_so_in(asked, fit):
    """Tells whether a fact is true in a fit, or the value lies within the limits."""
    first, second, low, high, show = asked
    times = dict(fit)
    passed = minus(times[second], times[first])
    return is_within(passed if show is None else shown_at(show, passed), low, high)
