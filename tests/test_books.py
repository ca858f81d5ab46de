"""Promises [21] to [27]: deeds and their faults, spans, chains, fits, what a book says, branches."""

import copy
import random
import unittest
from fractions import Fraction
from itertools import product
from unittest.mock import ANY

import bookmodel
from bookmodel import told
from clipmodel import is_number, pair
from surecues import books
from surecues.books import Book
from surecues.errors import BookError
from surecues.limits import FACTS, MOMENTS

F = Fraction
SEEDS = range(40)


def n(value):
    return pair(value)


def full_book():
    """A book with 8 moments and 40 facts, all of them true if these times are the right ones."""
    source = random.Random(1)
    times = {"start": F(0), **{name: F(source.randrange(-40, 40), 7) for name in "abcdefgh"}}
    book = Book()
    for name in "abcdefgh":
        book.add(name, pair(times[name] - 3), pair(times[name] + 2))
    while len(book.facts) < FACTS:
        first, second = source.sample(book.moments, 2)
        passed = times[second] - times[first]
        less, more = F(source.randrange(20), 5), F(source.randrange(20), 3)
        book.tell(first, second, pair(passed - less), pair(passed + more))
    return book


class Books(unittest.TestCase):
    def refused(self, what, function, *arguments, chain=()):
        with self.assertRaises(BookError) as caught:
            function(*arguments)
        self.assertEqual(caught.exception.what, what)
        self.assertIs(type(caught.exception.chain), list)
        self.assertEqual(caught.exception.chain, list(chain))

    def refused_unchanged(self, what, book, name, *arguments, chain=()):
        before = book.moments, book.facts, book.branch()
        self.refused(what, getattr(book, name), *arguments, chain=chain)
        self.assertEqual((book.moments, book.facts, book), before)

    def is_fit_of(self, fit, book):
        self.assertIs(type(fit), list)
        self.assertTrue(all(type(row) is tuple and is_number(row[1]) for row in fit))
        self.assertTrue(bookmodel.is_fit(book.moments, book.facts, fit), fit)
        self.assertIs(book.is_fit(fit), True)


class NewBooks(Books):
    def test_a_new_book(self):
        book = Book()
        self.assertEqual((book.moments, book.facts, len(book)), (["start"], [], 0))
        self.assertIn("start", book)
        self.assertIs(book.undo(), False)
        self.assertEqual(book.span("start", "start"), ((0, 1), (0, 1)))
        self.assertEqual(book.chain("start", "start"), [])
        self.assertEqual(book.earliest(), [("start", (0, 1))])
        self.assertEqual(book.latest(), [("start", (0, 1))])

    def test_books_do_not_share(self):
        first, second = Book(), Book()
        first.add("a", (0, 1), (1, 1))
        self.assertEqual(second, Book())


class Deeds(Books):
    def test_the_numbers_of_the_facts(self):
        book = Book()
        self.assertEqual(book.add("a", (1, 1), (3, 1)), 0)
        self.assertEqual(book.add("b", (-2, 1), (7, 2)), 1)
        self.assertEqual(book.tell("b", "a", (0, 1), (9, 1)), 2)
        self.assertEqual(book.add("c", (0, 1), (0, 1)), 3)
        self.assertEqual(book.tell("c", "start", (0, 1), (0, 1)), 4)
        self.assertEqual(book.moments, ["start", "a", "b", "c"])
        self.assertEqual(book.facts, [("start", "a", (1, 1), (3, 1)), ("start", "b", (-2, 1), (7, 2)),
                                      ("b", "a", (0, 1), (9, 1)), ("start", "c", (0, 1), (0, 1)),
                                      ("c", "start", (0, 1), (0, 1))])

    def test_the_order_of_the_moments_is_that_of_adding(self):
        book = told(("z", 0, 1), ("m", 0, 1), ("a", 0, 1))
        self.assertEqual(book.moments, ["start", "z", "m", "a"])

    def test_named_twice(self):
        book = told(("a", 0, 1))
        self.refused_unchanged("named twice", book, "add", "a", (0, 1), (1, 1))
        self.refused_unchanged("named twice", book, "add", "start", (5, 1), (1, 1))

    def test_wrong_span(self):
        book = told(("a", 0, 1))
        self.refused_unchanged("wrong span", book, "add", "b", (1, 2), (1, 3))
        self.refused_unchanged("wrong span", book, "tell", "start", "a", (1, 2), (1, 3))
        self.refused_unchanged("wrong span", book, "tell", "start", "a", (0, 1), (-1, 100))
        book.tell("start", "a", (1, 2), (1, 2))

    def test_too_great(self):
        for least, most in [((-1001, 1), (0, 1)), ((0, 1), (1001, 1)), ((0, 1), (1, 1001)),
                            ((1, 1001), (1, 1)), ((0, 1), (1000001, 1000)), ((-1000001, 1000), (0, 1)),
                            ((1001, 1), (1002, 1)), ((-1003, 1), (-1002, 1)), ((-5, 1009), (5, 1)),
                            ((0, 1), (10 ** 30, 1))]:
            book = told(("a", -1, 1))
            self.refused_unchanged("too great", book, "add", "b", least, most)
            self.refused_unchanged("too great", book, "tell", "start", "a", least, most)

    def test_just_not_too_great(self):
        for least, most in [(-1000, 1000), (F(-1, 1000), F(1, 1000)), (-1000, F(-999999, 1000)),
                            (F(999999, 1000), 1000)]:
            book = told(("a", least, most), ("b", -1000, 1000))
            self.assertEqual(book.tell("start", "a", n(least), n(most)), 2)
            self.assertEqual(book.span("start", "a"), (n(least), n(most)))

    def test_too_many_moments(self):
        book = Book()
        for at in range(MOMENTS):
            book.add("m" + str(at), (0, 1), (1, 1))
        self.assertEqual(len(book), 8)
        self.refused_unchanged("too many moments", book, "add", "x", (0, 1), (1, 1))
        self.refused_unchanged("too great", book, "add", "x", (0, 1), (1001, 1))
        self.refused_unchanged("wrong span", book, "add", "x", (1001, 1), (0, 1))
        self.refused_unchanged("named twice", book, "add", "m3", (1001, 1), (0, 1))

    def test_too_many_facts(self):
        book = told(("a", 0, 5), ("b", 0, 5))
        while len(book.facts) < 40:
            book.tell("a", "b", (-4, 1), (4, 1))
        self.refused_unchanged("too many facts", book, "tell", "a", "b", (-4, 1), (4, 1))
        self.refused_unchanged("too many facts", book, "add", "c", (-4, 1), (4, 1))
        # All others but a contradiction come ahead of it.
        self.refused_unchanged("too many facts", book, "tell", "a", "b", (7, 1), (8, 1))
        self.refused_unchanged("too great", book, "tell", "a", "b", (7, 1), (1008, 1))
        self.refused_unchanged("wrong span", book, "tell", "a", "b", (1007, 1), (8, 1))
        self.refused_unchanged("same moment", book, "tell", "b", "b", (1007, 1), (8, 1))
        self.refused_unchanged("unknown moment", book, "tell", "c", "c", (1007, 1), (8, 1))
        self.refused_unchanged("named twice", book, "add", "a", (1007, 1), (8, 1))

    def test_too_many_moments_comes_ahead_of_too_many_facts(self):
        book = full_book()
        self.assertEqual((len(book), len(book.facts)), (8, 40))
        self.refused_unchanged("too many moments", book, "add", "x", (0, 1), (1, 1))

    def test_unknown_moment(self):
        book = told(("a", 0, 1))
        for first, second in [("b", "a"), ("a", "b"), ("b", "b"), ("start", "A"), ("", "a")]:
            self.refused_unchanged("unknown moment", book, "tell", first, second, (5, 1), (1, 1))

    def test_same_moment(self):
        book = told(("a", 0, 1))
        for name in ["a", "start"]:
            self.refused_unchanged("same moment", book, "tell", name, name, (5, 1), (1, 1))
            self.refused_unchanged("same moment", book, "tell", name, name, (0, 1), (0, 1))

    def test_contradictions(self):
        book = told(("a", 1, 3), ("b", 4, 5))
        # From a to b pass 1 to 4.
        self.refused_unchanged("contradiction", book, "tell", "a", "b", (9, 2), (9, 1),
                               chain=[(0, False), (1, True)])
        self.refused_unchanged("contradiction", book, "tell", "a", "b", (0, 1), (1, 2),
                               chain=[(1, False), (0, True)])
        self.refused_unchanged("contradiction", book, "tell", "b", "a", (0, 1), (1, 2),
                               chain=[(1, False), (0, True)])
        self.refused_unchanged("contradiction", book, "tell", "b", "a", (-9, 1), (-5, 1),
                               chain=[(0, False), (1, True)])

    def test_by_just_a_little(self):
        for least, most, is_refused in [((4001, 1000), (5, 1), True), ((4, 1), (5, 1), False),
                                        ((0, 1), (999, 1000), True), ((0, 1), (1, 1), False)]:
            book = told(("a", 1, 3), ("b", 4, 5))
            if is_refused:
                with self.assertRaises(BookError) as caught:
                    book.tell("a", "b", least, most)
                self.assertEqual(caught.exception.what, "contradiction")
                self.assertEqual(len(book.facts), 2)
            else:
                self.assertEqual(book.tell("a", "b", least, most), 2)

    def test_the_chain_of_a_contradiction_is_the_shortest_one_of_the_book_before(self):
        for seed in SEEDS:
            book = bookmodel.random_book(seed)
            for first, second in product(book.moments, book.moments):
                if first == second:
                    continue
                low, high = bookmodel.span(book.facts, first, second)
                forth = bookmodel.best_chain(book.facts, first, second)[1]
                back = bookmodel.best_chain(book.facts, second, first)[1]
                self.refused_unchanged("contradiction", book, "tell", first, second,
                                       pair(high + F(1, 900)), pair(high + 5), chain=forth)
                self.refused_unchanged("contradiction", book, "tell", first, second,
                                       pair(low - 1), pair(low - F(1, 900)), chain=back)

    def test_a_fact_that_turns_around(self):
        book = told(("a", 1, 3))
        book.tell("a", "start", (-2, 1), (0, 1))
        self.assertEqual(book.span("start", "a"), ((1, 1), (2, 1)))
        self.assertEqual(book.span("a", "start"), ((-2, 1), (-1, 1)))

    def test_numbers_that_are_returned_later_are_right_after_undo(self):
        book = told(("a", 0, 9))
        self.assertEqual(book.tell("start", "a", (1, 1), (2, 1)), 1)
        book.undo()
        self.assertEqual(book.tell("start", "a", (3, 1), (4, 1)), 1)
        self.assertEqual(book.span("start", "a"), ((3, 1), (4, 1)))


class Undo(Books):
    def test_the_last_deed_first(self):
        book = told(("a", 1, 3), ("b", 4, 5), ("a", "b", 2, 3), ("c", 0, 1), ("c", "a", 1, 2))
        names = []
        for step in range(7):
            names.append(book.undo())
        self.assertEqual(names, ["tell", "add", "tell", "add", "add", False, False])
        self.assertEqual(book, Book())
        self.assertEqual(book.moments, ["start"])

    def test_it_is_as_it_was(self):
        book = told(("a", 1, 3))
        earlier = book.branch()
        book.add("b", (0, 1), (7, 1))
        later = book.branch()
        book.tell("b", "a", (0, 1), (0, 1))
        self.assertEqual(book.span("start", "b"), ((1, 1), (3, 1)))
        self.assertEqual(book.undo(), "tell")
        self.assertEqual(book, later)
        self.assertEqual(book.span("start", "b"), ((0, 1), (7, 1)))
        self.assertEqual(book.undo(), "add")
        self.assertEqual(book, earlier)
        self.assertNotIn("b", book)
        self.refused("unknown moment", book.span, "start", "b")

    def test_it_makes_room(self):
        book = full_book()
        while book.undo() == "tell":
            pass
        self.assertEqual((len(book), len(book.facts)), (7, 7))
        self.assertEqual(book.add("x", (0, 1), (1, 1)), 7)
        self.assertEqual(book.undo(), "add")
        self.assertEqual(book.add("h", (0, 1), (1, 1)), 7)

    def test_a_refused_deed_is_none(self):
        book = told(("a", 1, 3))
        self.refused("contradiction", book.tell, "start", "a", (4, 1), (5, 1), chain=[(0, True)])
        self.refused("named twice", book.add, "a", (4, 1), (5, 1))
        self.assertEqual(book.undo(), "add")
        self.assertIs(book.undo(), False)

    def test_what_contradicted_can_be_told_then(self):
        book = told(("a", 1, 9), ("start", "a", 1, 3))
        self.refused("contradiction", book.tell, "start", "a", (4, 1), (5, 1), chain=[(1, True)])
        book.undo()
        self.assertEqual(book.tell("start", "a", (4, 1), (5, 1)), 1)


class Spans(Books):
    def test_certain_spans(self):
        book = told(("a", 1, 3), ("b", 2, 5), ("a", "b", F(1, 2), 3))
        self.assertEqual(book.span("a", "b"), ((1, 2), (3, 1)))
        self.assertEqual(book.span("b", "a"), ((-3, 1), (-1, 2)))
        self.assertEqual(book.span("start", "a"), ((1, 1), (3, 1)))
        self.assertEqual(book.span("start", "b"), ((2, 1), (5, 1)))
        book.tell("start", "b", (5, 1), (5, 1))
        self.assertEqual(book.span("start", "a"), ((2, 1), (3, 1)))

    def test_a_moment_to_itself(self):
        for seed in SEEDS:
            book = bookmodel.random_book(seed)
            for name in book.moments:
                self.assertEqual(book.span(name, name), ((0, 1), (0, 1)))
                self.assertEqual(book.chain(name, name), [])

    def test_against_all_paths(self):
        for seed in SEEDS:
            book = bookmodel.random_book(seed, 2 + seed % 4, 5)
            for first, second in product(book.moments, book.moments):
                found = book.span(first, second)
                self.assertEqual(found, tuple(map(pair, bookmodel.span(book.facts, first, second))))
                self.assertTrue(all(map(is_number, found)))

    def test_unknown_moment(self):
        book = told(("a", 0, 1))
        for names in [("a", "b"), ("b", "a"), ("b", "b"), ("start", "Start")]:
            self.refused("unknown moment", book.span, *names)
            self.refused("unknown moment", book.chain, *names)
            self.refused("unknown moment", book.says, *names, (0, 1), (1, 1))
            self.refused("unknown moment", book.fit_with, *names, (10 ** 9, 1))


class Chains(Books):
    def test_against_all_paths(self):
        for seed in SEEDS:
            book = bookmodel.random_book(seed, 2 + seed % 4, 5)
            for first, second in product(book.moments, book.moments):
                length, chain = bookmodel.best_chain(book.facts, first, second)
                self.assertEqual(book.chain(first, second), chain)
                self.assertEqual(bookmodel.length(book.facts, chain, first, second), length)

    def test_equally_short_chains(self):
        # All numbers are alike, so that many chains have the same length.
        for seed in range(25):
            source = random.Random(seed)
            book = told(("a", 0, 0), ("b", 0, 0), ("c", 0, 0), ("d", -1, 1))
            for _ in range(6):
                first, second = source.sample(book.moments, 2)
                book.tell(first, second, (-source.randrange(2), 1), (source.randrange(2), 1))
            for first, second in product(book.moments, book.moments):
                self.assertEqual(book.chain(first, second),
                                 bookmodel.best_chain(book.facts, first, second)[1])

    def test_the_least_length_first(self):
        book = told(("a", 0, 9), ("b", 0, 1), ("b", "a", 0, 1))
        self.assertEqual(book.chain("start", "a"), [(1, True), (2, True)])

    def test_then_the_fewest_steps(self):
        book = told(("a", 0, 2), ("b", 0, 1), ("b", "a", 0, 1))
        self.assertEqual(book.chain("start", "a"), [(0, True)])
        book = told(("b", 0, 1), ("a", 0, 9), ("b", "a", 0, 1), ("start", "a", 0, 2))
        self.assertEqual(book.chain("start", "a"), [(3, True)])

    def test_then_lesser_numbers(self):
        book = told(("a", 1, 2), ("start", "a", 1, 2), ("a", "start", -2, -1))
        self.assertEqual(book.chain("start", "a"), [(0, True)])
        self.assertEqual(book.chain("a", "start"), [(0, False)])
        book = told(("a", 1, 5), ("start", "a", 1, 2), ("a", "start", -2, -1))
        self.assertEqual(book.chain("start", "a"), [(1, True)])
        book = told(("a", 1, 5), ("a", "start", -2, -1), ("start", "a", 1, 2))
        self.assertEqual(book.chain("start", "a"), [(1, False)])

    def test_lesser_numbers_step_by_step(self):
        # Both chains have two steps and the length 2; 0, 3 comes ahead of 1, 2.
        book = told(("a", 1, 1), ("b", 1, 1), ("c", -9, 9), ("b", "c", 1, 1), ("a", "c", 1, 1))
        self.assertEqual(book.chain("start", "c"), [(0, True), (4, True)])
        book = told(("b", 1, 1), ("a", 1, 1), ("c", -9, 9), ("a", "c", 1, 1), ("b", "c", 1, 1))
        self.assertEqual(book.chain("start", "c"), [(0, True), (4, True)])
        self.assertEqual(book.chain("c", "start"), [(3, False), (1, False)])

    def test_a_chain_is_a_new_list(self):
        book = told(("a", 1, 2))
        book.chain("start", "a").append(1)
        self.assertEqual(book.chain("start", "a"), [(0, True)])
        self.assertIs(type(book.chain("start", "a")[0][1]), bool)

    def test_a_great_book(self):
        book = full_book()
        lengths = bookmodel.all_lengths(book.moments, book.facts)
        for first, second in product(book.moments, book.moments):
            forth = bookmodel.length(book.facts, book.chain(first, second), first, second)
            back = bookmodel.length(book.facts, book.chain(second, first), second, first)
            self.assertEqual((forth, back), (lengths[first, second], lengths[second, first]))
            self.assertEqual(book.span(first, second), (pair(-back), pair(forth)))
        self.is_fit_of(book.earliest(), book)
        self.is_fit_of(book.latest(), book)


class Fits(Books):
    def test_earliest_and_latest(self):
        for seed in SEEDS:
            book = bookmodel.random_book(seed)
            self.assertEqual(book.earliest(), bookmodel.earliest(book.moments, book.facts))
            self.assertEqual(book.latest(), bookmodel.latest(book.moments, book.facts))
            self.is_fit_of(book.earliest(), book)
            self.is_fit_of(book.latest(), book)

    def test_certain_fits(self):
        book = told(("b", -2, 5), ("a", 1, 3), ("a", "b", 2, 3))
        self.assertEqual(book.earliest(), [("start", (0, 1)), ("b", (3, 1)), ("a", (1, 1))])
        self.assertEqual(book.latest(), [("start", (0, 1)), ("b", (5, 1)), ("a", (3, 1))])

    def test_the_fit_with_a_number(self):
        for seed in SEEDS:
            book = bookmodel.random_book(seed)
            source = random.Random(seed)
            for first, second in product(book.moments, book.moments):
                low, high = bookmodel.span(book.facts, first, second)
                for part in (F(0), F(1), F(source.randrange(8), 7)):
                    number = low + (high - low) * part
                    fit = book.fit_with(first, second, pair(number))
                    self.is_fit_of(fit, book)
                    self.assertEqual(bookmodel.passed(fit, first, second), number)
                    more = book.facts + [(first, second, pair(number), pair(number))]
                    if first == second:
                        more.pop()
                    self.assertEqual(fit, bookmodel.earliest(book.moments, more))

    def test_not_in_the_span(self):
        book = told(("a", 1, 3), ("b", 2, 5), ("a", "b", F(1, 2), 3))
        for names, number in [(("a", "b"), F(499, 1000)), (("a", "b"), F(3001, 1000)),
                              (("b", "a"), 1), (("a", "a"), F(1, 10 ** 9)), (("start", "b"), -10 ** 9)]:
            self.refused("not in the span", book.fit_with, *names, pair(number))
        self.refused("unknown moment", book.fit_with, "a", "c", (10 ** 9, 1))
        self.assertEqual(book.fit_with("b", "a", (-3, 1)),
                         [("start", (0, 1)), ("a", (1, 1)), ("b", (4, 1))])

    def test_the_number_need_not_be_one_of_a_fact(self):
        book = told(("a", 0, 1000))
        number = (1, 10 ** 40)
        self.assertEqual(book.fit_with("start", "a", number), [("start", (0, 1)), ("a", number)])

    def test_fit_with_changes_nothing(self):
        book = told(("a", 1, 3), ("b", 2, 5))
        before = book.branch()
        book.fit_with("a", "b", (1, 1)).clear()
        self.assertEqual((book, book.facts), (before, before.facts))
        self.assertEqual(book.undo(), "add")

    def test_each_fit_lies_between_the_earliest_and_the_latest(self):
        for seed in SEEDS:
            book = bookmodel.random_book(seed)
            fit = bookmodel.random_fit(book, random.Random(seed))
            self.is_fit_of(fit, book)
            for (_, least), (_, time), (_, most) in zip(book.earliest(), fit, book.latest()):
                self.assertTrue(F(*least) <= F(*time) <= F(*most))
            for first, second in product(book.moments, book.moments):
                low, high = book.span(first, second)
                self.assertTrue(F(*low) <= bookmodel.passed(fit, first, second) <= F(*high))

    def test_no_fits(self):
        book = told(("a", 1, 3), ("b", 2, 5), ("a", "b", F(1, 2), 3))
        fit = [("start", (0, 1)), ("a", (2, 1)), ("b", (5, 2))]
        self.is_fit_of(fit, book)
        start, first, second = fit
        for other in [[], [start], [start, first], [first, second], [*fit, ("c", (1, 1))],
                      [start, second, first], [first, start, second], [*fit, second],
                      [start, first, first], [("stop", (0, 1)), first, second],
                      [("start", (1, 10)), first, second], [start, ("a", (2001, 1000)), second],
                      [start, ("a", (99, 100)), second], [start, first, ("b", (51, 10))],
                      [start, first, ("c", (5, 2))], [start, ("A", (2, 1)), second]]:
            self.assertIs(book.is_fit(other), False, other)
        self.assertEqual(fit, [("start", (0, 1)), ("a", (2, 1)), ("b", (5, 2))])

    def test_limits_of_facts_are_fits_too(self):
        book = told(("a", 1, 3), ("start", "a", 0, 2))
        for time, expected in [((1, 1), True), ((2, 1), True), ((999, 1000), False),
                               ((2001, 1000), False)]:
            self.assertIs(book.is_fit([("start", (0, 1)), ("a", time)]), expected)


class Saying(Books):
    def test_what_a_book_says(self):
        book = told(("a", 1, 3), ("b", 4, 5))
        # From a to b pass 1 to 4.
        for least, most, expected in [(1, 4, True), (0, 9, True), (F(11, 10), 9, None), (1, 3, None),
                                      (2, 3, None), (4, 9, None), (-5, 1, None), (F(41, 10), 9, False),
                                      (-5, F(9, 10), False), (1, 1, None), (0, 0, False)]:
            self.assertIs(book.says("a", "b", n(least), n(most)), expected, (least, most))
            self.assertIs(book.says("b", "a", n(-most), n(-least)), expected)

    def test_a_moment_and_itself(self):
        book = told(("a", 1, 3))
        for name in ["a", "start"]:
            for least, most, expected in [(0, 0, True), (-1, 1, True), (F(1, 5), 1, False), (-2, -1, False)]:
                self.assertIs(book.says(name, name, n(least), n(most)), expected)

    def test_a_fact_that_was_told(self):
        for seed in SEEDS:
            book = bookmodel.random_book(seed)
            for fact in book.facts:
                self.assertIs(book.says(*fact), True)

    def test_facts_that_follow_from_others(self):
        book = told(("a", 1, 2), ("b", -9, 9), ("c", -9, 9), ("a", "b", 1, 2), ("b", "c", 1, 2))
        self.assertIs(book.says("start", "c", (3, 1), (6, 1)), True)
        self.assertIs(book.says("start", "c", (3, 1), (5, 1)), None)
        self.assertIs(book.says("c", "a", (-4, 1), (-2, 1)), True)
        self.assertIs(book.says("start", "c", (7, 1), (9, 1)), False)

    def test_it_says_of_numbers_that_no_deed_takes(self):
        book = told(("a", 1, 3))
        self.assertIs(book.says("start", "a", (-10 ** 9, 1), (10 ** 9, 1)), True)
        self.assertIs(book.says("start", "a", (3000001, 10 ** 6), (10 ** 9, 1)), False)


class Branches(Books):
    def test_a_branch_goes_on_by_itself(self):
        book = told(("a", 1, 3))
        branch = book.branch()
        self.assertIsNot(branch, book)
        self.assertEqual(branch, book)
        branch.add("b", (0, 1), (1, 1))
        book.tell("start", "a", (2, 1), (3, 1))
        self.assertEqual((book.moments, branch.moments), (["start", "a"], ["start", "a", "b"]))
        self.assertEqual(branch.span("start", "a"), ((1, 1), (3, 1)))
        self.assertEqual(book.span("start", "a"), ((2, 1), (3, 1)))
        self.assertNotEqual(branch, book)

    def test_it_can_take_back_the_same(self):
        book = told(("a", 1, 3), ("start", "a", 1, 2), ("b", 0, 1))
        branch = book.branch()
        self.assertEqual([branch.undo() for _ in range(4)], ["add", "tell", "add", False])
        self.assertEqual(len(book), 2)
        self.assertEqual([book.undo() for _ in range(4)], ["add", "tell", "add", False])

    def test_equal_books(self):
        first = told(("a", 1, 3), ("start", "a", 1, 2))
        self.assertEqual(first, told(("a", 1, 3), ("start", "a", 1, 2)))
        self.assertFalse(first != told(("a", 1, 3), ("start", "a", 1, 2)))
        for other in [told(("a", 1, 3)), told(("b", 1, 3), ("start", "b", 1, 2)),
                      told(("a", 1, 2), ("start", "a", 1, 3)), told(("a", 1, 3), ("a", "start", -2, -1)),
                      told(("a", 1, 3), ("start", "a", 1, 2), ("b", 0, 0)), Book()]:
            self.assertNotEqual(first, other)
        self.assertNotEqual(told(("a", 0, 1), ("b", 0, 1)), told(("b", 0, 1), ("a", 0, 1)))

    def test_what_was_taken_back_does_not_matter(self):
        first = told(("a", 1, 3), ("b", 0, 0), ("start", "b", 0, 0))
        first.undo()
        first.undo()
        self.assertEqual(first, told(("a", 1, 3)))

    def test_values_of_other_kinds(self):
        book = Book()
        for other in [None, 0, "start", ["start"], object()]:
            self.assertIs(book.__eq__(other), NotImplemented)
            self.assertNotEqual(book, other)

    def test_no_hash(self):
        with self.assertRaises(TypeError):
            hash(Book())

    def test_is_there_a_moment(self):
        book = told(("a", 1, 3))
        self.assertIn("a", book)
        self.assertIn("start", book)
        for other in ["b", "", "A", None, 0, True, (), [], {}, ["a"], ("a",), {"a"}, b"a", book, ANY]:
            self.assertNotIn(other, book)

    def test_the_length(self):
        book = told(("a", 1, 3), ("start", "a", 1, 3), ("b", 1, 3))
        self.assertEqual(len(book), 2)
        book.undo()
        self.assertEqual(len(book), 1)

    def test_lists_are_new_each_time(self):
        book = told(("a", 1, 3), ("b", 1, 3))
        before = copy.deepcopy((book.moments, book.facts, book.earliest(), book.latest()))
        for found in (book.moments, book.facts, book.earliest(), book.latest(),
                      book.fit_with("a", "b", (0, 1)), book.chain("a", "b")):
            found.append(found[0])
            del found[0]
        self.assertEqual((book.moments, book.facts, book.earliest(), book.latest()), before)

    def test_properties_without_setters(self):
        for name in ("moments", "facts"):
            self.assertIsInstance(vars(Book)[name], property)
            with self.assertRaises(AttributeError):
                setattr(Book(), name, 1)

    def test_all_is_defined_here(self):
        for name in ["add", "tell", "undo", "span", "chain", "earliest", "latest", "fit_with", "says",
                     "is_fit", "branch", "__len__", "__contains__", "__eq__"]:
            self.assertIn(name, vars(Book))
        self.assertEqual(Book.__module__, books.__name__)

    def test_the_names_of_the_arguments(self):
        book = Book()
        book.add(name="a", least=(0, 1), most=(1, 1))
        book.tell(first="start", second="a", least=(0, 1), most=(1, 1))
        self.assertEqual(book.span(first="start", second="a"), ((0, 1), (1, 1)))
        self.assertEqual(book.chain(first="start", second="a"), [(0, True)])
        fit = book.fit_with(first="start", second="a", number=(1, 2))
        self.assertTrue(book.is_fit(fit=fit))
        self.assertIs(book.says(first="start", second="a", least=(0, 1), most=(1, 1)), True)


if __name__ == "__main__":
    unittest.main()
