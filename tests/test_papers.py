"""Promises [32] to [34]: claims that hold and claims that do not, and the answers to questions."""

import copy
import random
import unittest
from fractions import Fraction

import bookmodel
import scenemodel
from bookmodel import told
from clipmodel import clip, pair, track
from scenemodel import CUT_HILL, HILL_CLIP, LEVELS
from surecues import papers
from surecues.errors import BookError, SceneError
from surecues.papers import answer, judge, judge_all
from surecues.scenes import Scene

F = Fraction
SEEDS = range(80)
WORDS = {True: "always", False: "never", None: "open"}


def n(value):
    return pair(value)


def a_scene(least, most, some_clip=HILL_CLIP):
    """A scene in which least to most pass from the cue of the show x to the moment a."""
    scene = Scene(told(("cue", 0, 9), ("a", -1000, 1000), ("cue", "a", least, most)))
    scene.show("x", some_clip, "lamp", "cue")
    return scene


def span_question(least, most, first="cue", second="a"):
    return "span", (first, second, n(least), n(most))


def value_question(low, high, name="x", moment="a"):
    return "value", name, moment, n(low), n(high)


def questions_of(seed, count=8):
    """A scene, and questions about it."""
    scene = scenemodel.random_scene(seed)
    source = random.Random(seed)
    return scene, [scenemodel.random_question(scene, source) for _ in range(count)]


def moments_of(scene, question):
    """The two moments between which a question asks."""
    if question[0] == "span":
        return question[1][:2]
    return next(show[3] for show in scene.shows if show[0] == question[1]), question[2]


def said(scene, question):
    return scene.book.says(*question[1]) if question[0] == "span" else scene.says(*question[1:])


class Papers(unittest.TestCase):
    def holds(self, scene, claim):
        self.assertIs(judge(scene, claim), True, claim)

    def fails(self, scene, claim):
        self.assertIs(judge(scene, claim), False, claim)


class Answers(Papers):
    def test_always_and_never_about_a_fact(self):
        scene = a_scene(1, 3)
        for question, word in [(span_question(1, 3), "always"), (span_question(-9, 9), "always"),
                               (span_question(4, 5), "never"), (span_question(-9, F(1, 2)), "never")]:
            claim = answer(scene, question)
            self.assertEqual(claim, (word, question, ([(2, True)], [(2, False)])))
            self.holds(scene, claim)
        claim = answer(scene, span_question(-3, -1, "a", "cue"))
        self.assertEqual(claim[::2], ("always", ([(2, False)], [(2, True)])))
        self.holds(scene, claim)

    def test_always_and_never_about_a_value(self):
        scene = a_scene(1, 3)
        for question, word in [(value_question(3, 4), "always"), (value_question(-9, 9), "always"),
                               (value_question(F(41, 10), 5), "never"), (value_question(-9, 0), "never")]:
            claim = answer(scene, question)
            self.assertEqual(claim, (word, question, ([(2, True)], [(2, False)])))
            self.holds(scene, claim)
        claim = answer(scene, value_question(0, 1, "x", "cue"))
        self.assertEqual(claim[::2], ("always", ([], [])))
        self.holds(scene, claim)

    def test_open_about_a_fact(self):
        for question, inside, outside in [(span_question(2, 9), 2, 1), (span_question(3, 9), 3, 1),
                                          (span_question(2, F(5, 2)), 2, 1), (span_question(1, 2), 1, 3),
                                          (span_question(-5, 1), 1, 3), (span_question(0, 2), 1, 3)]:
            scene = a_scene(1, 3)
            claim = answer(scene, question)
            fits = [scene.book.fit_with("cue", "a", n(number)) for number in (inside, outside)]
            self.assertEqual(claim, ("open", question, tuple(fits)))
            self.holds(scene, claim)

    def open_value(self, scene, limits, inside, outside):
        question = value_question(*limits)
        claim = answer(scene, question)
        fits = [scene.book.fit_with("cue", "a", n(number)) for number in (inside, outside)]
        self.assertEqual(claim, ("open", question, tuple(fits)))
        self.holds(scene, claim)

    def test_open_about_a_value_at_points(self):
        # The hill has the value 0 up to 0 and from 4 on, 3 at 1 and at 3, and 4 at 2.
        for some_clip in (HILL_CLIP, CUT_HILL):
            for span, limits, inside, outside in [
                    ((0, 4), (3, 4), 2, 0), ((0, 4), (0, 3), 0, 2), ((1, 3), (3, F(7, 2)), 1, 2),
                    ((-5, 9), (-1, 1), -5, 2), ((-5, 9), (F(1, 2), 5), 2, -5), ((0, 3), (2, 3), 3, 0),
                    ((3, 9), (0, 1), 4, 3), ((3, 9), (1, 3), 3, 4), ((1, F(3, 2)), (0, 3), 1, F(3, 2)),
                    ((-1, 1), (F(5, 2), 9), 1, -1)]:
                self.open_value(a_scene(*span, some_clip), limits, inside, outside)

    def test_open_about_a_value_between_points(self):
        # The middle of the points 0 and 2 is 1, that of 0 and 1 is 1 / 2, and so on.
        for span, limits, inside, outside in [
                ((0, 4), (F(29, 10), F(31, 10)), 1, 0), ((0, 4), (1, 2), F(1, 2), 0),
                ((-1, 4), (1, 2), F(1, 2), -1), ((0, 4), (F(1, 2), 1), F(1, 4), 0),
                ((0, 4), (F(13, 5), F(14, 5)), F(7, 8), 0), ((2, 4), (1, 2), F(7, 2), 2),
                ((-3, 1), (1, 2), F(1, 2), -3), ((0, 9), (F(3), F(301, 100)), 1, 0)]:
            self.open_value(a_scene(*span), limits, inside, outside)

    def test_the_first_two_neighbors(self):
        # From 1 up to 4 between 1 and 2, down to -1 between 4 and 5.
        self.open_value(a_scene(0, 9, LEVELS), (2, 3), F(3, 2), 0)
        self.open_value(a_scene(F(5, 2), 9, LEVELS), (2, 3), F(17, 4), F(5, 2))
        self.open_value(a_scene(0, 9, LEVELS), (-1, F(-1, 2)), 5, 0)
        self.open_value(a_scene(0, 9, LEVELS), (F(-1, 2), F(1, 2)), F(19, 4), 0)

    def test_the_points_are_those_of_the_normal_form(self):
        # Where two pieces meet that could be one, at 9 / 10, the value lies within the limits too.
        whole = clip({"lamp": track(0, (4, F(5, 2), 0))})
        parted = clip({"lamp": track(0, (F(9, 10), F(5, 2), 0), (F(31, 10), F(5, 2), 0))})
        for some_clip in (whole, parted):
            self.open_value(a_scene(0, 4, some_clip), (2, 3), 1, 0)

    def test_narrow_limits(self):
        scene = a_scene(0, 4)
        low = F(2)
        claim = answer(scene, value_question(low, low + F(1, 10 ** 30)))
        self.holds(scene, claim)
        self.assertEqual(claim[0], "open")

    def test_against_the_model(self):
        words = []
        for seed in SEEDS:
            scene, questions = questions_of(seed)
            book = scene.book
            for question in questions:
                claim = answer(scene, question)
                word = WORDS[said(scene, question)]
                self.assertEqual(claim[:2], (word, question))
                self.assertIs(type(claim), tuple)
                self.holds(scene, claim)
                self.assertTrue(scenemodel.holds(scene, claim))
                first, second = moments_of(scene, question)
                if word != "open":
                    expected = book.chain(first, second), book.chain(second, first)
                else:
                    low, high = bookmodel.span(book.facts, first, second)
                    limits = [F(*each) for each in (question[1][2:] if question[0] == "span" else question[3:])]
                    if question[0] == "span":
                        numbers = max(low, limits[0]), low if low < limits[0] else high
                    else:
                        show = next(show for show in scene.shows if show[0] == question[1])
                        numbers = scenemodel.open_numbers(show, low, high, limits)
                    expected = tuple(book.fit_with(first, second, pair(each)) for each in numbers)
                self.assertEqual(claim[2], expected)
                words.append((question[0], word))
        for kind in ("span", "value"):
            for word in WORDS.values():
                self.assertGreater(words.count((kind, word)), 20, (kind, word))

    def test_errors(self):
        scene = a_scene(1, 3)
        for names in [("cue", "b"), ("b", "cue"), ("b", "b")]:
            with self.assertRaises(BookError) as caught:
                answer(scene, span_question(1, 2, *names))
            self.assertEqual((caught.exception.what, caught.exception.chain), ("unknown moment", []))
        for name, moment, what in [("y", "a", "unknown show"), ("y", "b", "unknown show"),
                                   ("x", "b", "unknown moment")]:
            with self.assertRaises(SceneError) as caught:
                answer(scene, value_question(1, 2, name, moment))
            self.assertEqual(caught.exception.what, what)

    def test_nothing_is_changed_and_lists_are_new(self):
        scene = a_scene(1, 3)
        before = scene.book.branch(), scene.shows
        for question in [span_question(1, 3), span_question(2, 3), value_question(0, 9),
                         value_question(0, 3)]:
            claim = answer(scene, question)
            kept = copy.deepcopy(claim)
            for part in claim[2]:
                part.clear()
            self.assertEqual(answer(scene, question), kept)
            self.assertEqual((scene.book, scene.shows), before)


class Judging(Papers):
    def test_chains_need_not_be_the_shortest(self):
        scene = a_scene(1, 3)
        book = scene.book
        longer = [(2, True), (2, False), (2, True)]
        self.holds(scene, ("always", span_question(-9, 9), (longer, [(2, False)])))
        # Its length is 5, which is more than 4.
        self.fails(scene, ("always", span_question(-9, 4), (longer, [(2, False)])))
        self.holds(scene, ("always", span_question(-9, 5), (longer, [(2, False)])))
        self.assertIs(book.says("cue", "a", n(-9), n(4)), True)

    def test_the_limits_of_always_and_never(self):
        scene = a_scene(1, 3)
        chains = [(2, True)], [(2, False)]
        for least, most, always, never in [(1, 3, True, False), (F(11, 10), 3, False, False),
                                           (1, F(29, 10), False, False), (3, 9, False, False),
                                           (F(31, 10), 9, False, True), (-9, 1, False, False),
                                           (-9, F(9, 10), False, True)]:
            question = span_question(least, most)
            self.assertIs(judge(scene, ("always", question, chains)), always)
            self.assertIs(judge(scene, ("never", question, chains)), never)
        for low, high, always, never in [(3, 4, True, False), (F(31, 10), 4, False, False),
                                         (3, F(39, 10), False, False), (4, 9, False, False),
                                         (F(41, 10), 9, False, True), (-9, 3, False, False),
                                         (-9, F(29, 10), False, True)]:
            question = value_question(low, high)
            self.assertIs(judge(scene, ("always", question, chains)), always)
            self.assertIs(judge(scene, ("never", question, chains)), never)

    def test_values_between_longer_chains(self):
        # The shortest chains tell of 1 to 3; longer ones of more, where the value is less than 3.
        scene = a_scene(1, 3)
        longer = [(2, True), (2, False), (2, True)]
        self.holds(scene, ("always", value_question(3, 4), ([(2, True)], [(2, False)])))
        self.fails(scene, ("always", value_question(3, 4), (longer, [(2, False)])))
        self.holds(scene, ("always", value_question(0, 4), (longer, [(2, False)])))

    def test_wrong_words(self):
        scene = a_scene(1, 3)
        for question in [span_question(1, 3), span_question(4, 5), span_question(2, 9),
                         value_question(3, 4), value_question(5, 6), value_question(3, F(7, 2))]:
            word, _, paper = answer(scene, question)
            for other in ["always", "never", "open", "", "Always", "sometimes"]:
                self.assertIs(judge(scene, (other, question, paper)), other == word)
            for other in ["", "speed", "always"]:
                self.fails(scene, (word, (other, *question[1:]), paper))

    def test_chains_that_are_none(self):
        scene = a_scene(1, 3)
        for question in [span_question(-900, 900), value_question(-900, 900)]:
            for forth in [[], [(0, True)], [(2, False)], [(3, True)], [(-1, True)], [(2, True), (2, True)],
                          [(0, False), (0, True)], [(10 ** 20, True)], [(0, False), (2, True)],
                          [(2, True), (1, False)]]:
                self.fails(scene, ("always", question, (forth, [(2, False)])))
                self.assertIsNone(bookmodel.length(scene.book.facts, forth, "cue", "a"))
            for back in [[], [(0, False)], [(2, True)], [(3, False)], [(-1, False)], [(1, True), (0, False)]]:
                self.fails(scene, ("always", question, ([(2, True)], back)))
            for forth in [[(0, False), (1, True)], [(2, True), (1, False), (1, True)]]:
                self.holds(scene, ("always", value_question(-900, 900), (forth, [(2, False)])))
        question = span_question(-2000, 2000)
        self.holds(scene, ("always", question, ([(0, False), (1, True)], [(1, False), (0, True)])))

    def test_steps_that_are_none(self):
        scene = a_scene(1, 3)
        question = span_question(-2000, 2000)
        self.holds(scene, ("always", question, ([(0, False), (1, True)], [(2, False)])))
        # True and False are not integers, and 0 and 1 are not truth values.
        for step in [(True, True), (1, 1), (1, None), (None, True), ("a", True), ("a", (1, 1)), (1,),
                     (1, True, True), (), [1, True], None, 1]:
            self.fails(scene, ("always", question, ([(0, False), step], [(2, False)])))
            self.fails(scene, ("always", question, ([(2, True)], [step, (0, True)])))
        for chain in [None, (), ((2, True),), {}, "", 0]:
            self.fails(scene, ("always", question, (chain, [(2, False)])))

    def test_papers_that_are_no_pairs(self):
        scene = a_scene(1, 3)
        for question in [span_question(1, 3), span_question(2, 9), value_question(0, 3)]:
            word, _, paper = answer(scene, question)
            self.holds(scene, (word, question, paper))
            for other in [(), paper[:1], (*paper, paper[0]), list(paper), None]:
                self.fails(scene, (word, question, other))

    def test_the_chains_are_in_order(self):
        scene = a_scene(1, 3)
        for question in [span_question(-9, 9), value_question(-9, 9)]:
            self.fails(scene, ("always", question, ([(2, False)], [(2, True)])))

    def test_fits_that_are_none(self):
        scene = a_scene(1, 3)
        inside, outside = scene.book.fit_with("cue", "a", n(2)), scene.book.fit_with("cue", "a", n(1))
        for question in [span_question(2, 9), value_question(F(7, 2), 5)]:
            self.holds(scene, ("open", question, (inside, outside)))
            self.fails(scene, ("open", question, (outside, inside)))
            self.fails(scene, ("open", question, (inside, inside)))
            self.fails(scene, ("open", question, (outside, outside)))
            for wrong in [inside[:2], inside[::-1], [], [*inside, ("b", (1, 1))],
                          [inside[0], inside[2], inside[1]],
                          [inside[0], ("cue", (10, 1)), ("a", (12, 1))],
                          [("start", (1, 1)), *inside[1:]], [(0, True), (1, False), (2, True)]]:
                self.fails(scene, ("open", question, (wrong, outside)))
                self.fails(scene, ("open", question, (inside, wrong)))

    def test_any_fits_will_do(self):
        scene = a_scene(1, 3)
        fits = [[("start", (0, 1)), ("cue", (4, 1)), ("a", n(time))] for time in (F(13, 2), F(11, 2))]
        self.holds(scene, ("open", span_question(2, 9), tuple(fits)))
        fits = [[("start", (0, 1)), ("cue", (4, 1)), ("a", n(time))] for time in (F(25, 4), 5)]
        self.holds(scene, ("open", value_question(F(7, 2), 5), tuple(fits)))

    def test_papers_of_the_other_kind(self):
        scene = a_scene(1, 3)
        chains = [(2, True)], [(2, False)]
        fits = tuple(scene.book.fit_with("cue", "a", n(number)) for number in (2, 1))
        for question in [span_question(-9, 9), span_question(2, 9), value_question(-9, 9),
                         value_question(F(7, 2), 5), span_question(4, 5)]:
            self.fails(scene, ("open", question, chains))
            self.fails(scene, ("open", question, ([], [])))
            self.fails(scene, ("always", question, fits))
            self.fails(scene, ("never", question, fits))

    def test_unknown_shows_and_moments(self):
        scene = a_scene(1, 3)
        chains = [(2, True)], [(2, False)]
        fits = tuple(scene.book.fit_with("cue", "a", n(number)) for number in (2, 1))
        for question in [span_question(-9, 9, "b", "a"), span_question(-9, 9, "cue", "b"),
                         span_question(-9, 9, "b", "b"), value_question(-9, 9, "y"),
                         value_question(-9, 9, "x", "b"), value_question(-9, 9, "y", "b")]:
            for word in WORDS.values():
                for paper in (chains, fits, ([], [])):
                    self.fails(scene, (word, question, paper))

    def test_a_cue_that_was_taken_back(self):
        scene = Scene(told(("a", 0, 1), ("cue", 0, 1)))
        scene.show("x", HILL_CLIP, "lamp", "cue")
        claim = answer(scene, value_question(-9, 9))
        self.holds(scene, claim)
        scene.book.undo()
        self.fails(scene, claim)

    def test_a_claim_goes_by_the_book_as_it_is(self):
        scene = a_scene(1, 3)
        claim = answer(scene, span_question(2, 9))
        later = ("always", span_question(2, 9), ([(2, True)], [(3, False)]))
        self.holds(scene, claim)
        self.fails(scene, later)
        scene.book.tell("cue", "a", (2, 1), (3, 1))
        self.fails(scene, claim)
        self.holds(scene, later)
        scene.book.undo()
        self.holds(scene, claim)
        scene.book.add("more", (0, 1), (1, 1))
        # These are no fits of the book now, since they lack a moment.
        self.fails(scene, claim)

    def test_a_question_about_one_moment(self):
        scene = a_scene(1, 3)
        for limits, word in [((0, 1), "always"), ((1, 2), "never")]:
            claim = answer(scene, span_question(*limits, "a", "a"))
            self.assertEqual(claim, (word, span_question(*limits, "a", "a"), ([], [])))
            self.holds(scene, claim)

    def changed(self, claim, source):
        """The claim with one thing changed."""
        word, question, paper = copy.deepcopy(claim)
        sides = list(paper)
        at = source.randrange(2)
        part = sides[at]
        change = source.randrange(6)
        if change == 0:
            word = source.choice(["always", "never", "open", "maybe"])
        elif change == 1:
            part.insert(source.randrange(len(part) + 1),
                        source.choice([(source.randrange(7), bool(source.randrange(2))),
                                       ("a", (source.randrange(5), 1))]))
        elif change == 2 and part:
            del part[source.randrange(len(part))]
        elif change == 3 and part and word == "open":
            where = source.randrange(len(part))
            part[where] = part[where][0], pair(F(*part[where][1]) + F(source.randrange(-3, 4), 2))
        elif change == 3 and part:
            where = source.randrange(len(part))
            part[where] = part[where][0] + source.choice([-1, 0, 1]), not part[where][1]
        elif change == 4:
            sides.reverse()
        elif question[0] == "span":
            fact = question[1]
            question = "span", source.choice([(fact[1], fact[0], *fact[2:]), (*fact[:3], (99, 1)),
                                              (fact[0], "zzz", *fact[2:])])
        else:
            question = source.choice([(*question[:4], (99, 1)), ("value", "zzz", *question[2:]),
                                      (*question[:2], "start", *question[3:])])
        return word, question, tuple(sides)

    def test_claims_with_one_thing_changed(self):
        found = []
        for seed in SEEDS:
            scene, questions = questions_of(seed, 5)
            source = random.Random(seed)
            for question in questions:
                claim = answer(scene, question)
                for _ in range(8):
                    other = self.changed(claim, source)
                    expected = scenemodel.holds(scene, other)
                    self.assertIs(judge(scene, other), expected, other)
                    found.append(expected)
                    if expected:
                        # What holds is true.
                        self.assertEqual(WORDS[said(scene, other[1])], other[0])
        self.assertGreater(min(found.count(True), found.count(False)), 300)

    def test_judging_changes_nothing(self):
        scene = a_scene(1, 3)
        claims = [answer(scene, question) for question in [span_question(1, 3), value_question(0, 3)]]
        before = copy.deepcopy(claims), scene.book.branch(), scene.shows
        judge_all(scene, claims)
        self.assertEqual((claims, scene.book, scene.shows), before)


class JudgingAll(Papers):
    def test_the_indices_of_those_that_do_not_hold(self):
        scene = a_scene(1, 3)
        right = answer(scene, span_question(1, 3))
        wrong = ("never", *right[1:])
        self.assertEqual(judge_all(scene, []), [])
        self.assertEqual(judge_all(scene, [right, right]), [])
        self.assertEqual(judge_all(scene, [wrong, right, wrong, wrong, right]), [0, 2, 3])

    def test_beside_judge(self):
        for seed in range(20):
            scene, questions = questions_of(seed)
            claims = [answer(scene, question) for question in questions]
            claims = [(word if at & 1 else "open", *rest) for at, (word, *rest) in enumerate(claims)]
            expected = [at for at, claim in enumerate(claims) if not judge(scene, claim)]
            self.assertEqual(judge_all(scene, claims), expected)


class Interface(unittest.TestCase):
    def test_all_are_defined_in_this_file(self):
        for function in [answer, judge, judge_all]:
            self.assertEqual(function.__module__, papers.__name__)

    def test_the_names_of_the_arguments(self):
        scene = a_scene(1, 3)
        claim = answer(scene=scene, question=span_question(1, 3))
        self.assertIs(judge(scene=scene, claim=claim), True)
        self.assertEqual(judge_all(scene=scene, claims=[claim]), [])


if __name__ == "__main__":
    unittest.main()
