"""Books for the tests: small ones, and what they say, worked out from all their paths."""

import random
from fractions import Fraction
from itertools import product

from clipmodel import pair
from surecues.books import Book
from surecues.errors import BookError

F = Fraction


def told(*deeds):
    """A book with these deeds: (name, least, most) adds, (first, second, least, most) tells."""
    book = Book()
    for *names, least, most in deeds:
        numbers = pair(least), pair(most)
        if len(names) == 1:
            book.add(*names, *numbers)
        else:
            book.tell(*names, *numbers)
    return book


def as_fractions(fact):
    first, second, least, most = fact
    return first, second, F(*least), F(*most)


def steps(facts):
    """(step, from, to, length) of all steps."""
    found = []
    for at, (first, second, least, most) in enumerate(map(as_fractions, facts)):
        found += [((at, True), first, second, most), ((at, False), second, first, -least)]
    return found


def simple_chains(facts, first, second, seen=()):
    """All chains without a moment that comes twice, each as (length, steps)."""
    if first == second:
        yield F(0), []
        return
    for step, start, end, length in steps(facts):
        if start == first and end not in seen:
            for rest, chain in simple_chains(facts, end, second, (*seen, first)):
                yield length + rest, [step, *chain]


def best_chain(facts, first, second):
    """The length of the shortest chain, and the chain."""
    return min(simple_chains(facts, first, second),
               key=lambda row: (row[0], len(row[1]), [(at, not forth) for at, forth in row[1]]))


def all_lengths(moments, facts):
    """The lengths of the shortest chains between all moments, also of great books."""
    found = {(name, name): F(0) for name in moments}
    for _, start, end, more in steps(facts):
        found[start, end] = min(more, found.get((start, end), more))
    for middle, start, end in product(moments, moments, moments):
        if (start, middle) in found and (middle, end) in found:
            through = found[start, middle] + found[middle, end]
            found[start, end] = min(through, found.get((start, end), through))
    return found


def length(facts, chain, first, second):
    """The length of a chain, or None if it does not lead from first to second."""
    rows = {step: row for step, *row in steps(facts)}
    total, here = F(0), first
    for step in chain:
        if step not in rows or rows[step][0] != here:
            return None
        _, here, more = rows[step]
        total += more
    return total if here == second else None


def span(facts, first, second):
    return -best_chain(facts, second, first)[0], best_chain(facts, first, second)[0]


def earliest(moments, facts):
    return [(name, pair(-best_chain(facts, name, "start")[0])) for name in moments]


def latest(moments, facts):
    return [(name, pair(best_chain(facts, "start", name)[0])) for name in moments]


def is_true(fact, times):
    first, second, least, most = as_fractions(fact)
    return least <= times[second] - times[first] <= most


def is_fit(moments, facts, fit):
    if [name for name, _ in fit] != moments:
        return False
    times = {name: F(*time) for name, time in fit}
    return times["start"] == 0 and all(is_true(fact, times) for fact in facts)


def passed(fit, first, second):
    times = {name: F(*time) for name, time in fit}
    return times[second] - times[first]


def random_book(seed, moments=4, facts=4):
    """A book with some moments, and facts that are no contradictions."""
    source = random.Random(seed)
    book = Book()
    for name in ["abcdefgh"[at] for at in range(moments)]:
        low = F(source.randrange(-6, 6), source.choice([1, 1, 2, 3]))
        book.add(name, pair(low), pair(low + F(source.randrange(0, 9), source.choice([1, 2]))))
    wished = facts
    while wished > 0:
        first, second = source.sample(book.moments, 2)
        low = F(source.randrange(-6, 6), source.choice([1, 1, 2, 3]))
        high = low + F(source.randrange(0, 8), source.choice([1, 2]))
        wished -= 1
        try:
            book.tell(first, second, pair(low), pair(high))
        except BookError:
            pass
    return book


def random_fit(book, source):
    """A fit: the moments get times one after the other, each one within what is left to it."""
    branch = book.branch()
    rows = []
    for name in book.moments:
        least, greatest = span(branch_facts(branch, rows), "start", name)
        rows.append((name, least + (greatest - least) * F(source.randrange(0, 5), 4)))
    return [(name, pair(time)) for name, time in rows]


def branch_facts(book, rows):
    return book.facts + [("start", name, pair(time), pair(time)) for name, time in rows[1:]]
