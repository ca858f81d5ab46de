"""Promises [28] to [31]: shows, their values and bounds, witnesses, what a scene says, settling."""

import copy
import random
import unittest
from fractions import Fraction

import bookmodel
import scenemodel
from bookmodel import told
from clipmodel import SAMPLES, clip, is_number, pair, track
from scenemodel import CUT_HILL, HILL_CLIP, LEVELS
from surecues import scenes
from surecues.books import Book
from surecues.errors import BookError, SceneError
from surecues.limits import SHOWS
from surecues.scenes import Scene

F = Fraction
SEEDS = range(60)


def n(value):
    return pair(value)


def hill_scene(least, most, some_clip=HILL_CLIP):
    """A scene in which least to most pass from the cue of the show x to the moment a."""
    scene = Scene(told(("cue", 0, 9), ("a", -1000, 1000), ("cue", "a", least, most)))
    scene.show("x", some_clip, "lamp", "cue")
    return scene


def show_of(scene, name="x"):
    return next(show for show in scene.shows if show[0] == name)


class Scenes(unittest.TestCase):
    def refused(self, what, function, *arguments, **more):
        with self.assertRaises(SceneError) as caught:
            function(*arguments, **more)
        self.assertEqual(caught.exception.what, what)


class Shows(Scenes):
    def test_a_new_scene(self):
        book = Book()
        scene = Scene(book)
        self.assertIs(scene.book, book)
        self.assertEqual(scene.shows, [])

    def test_shows_in_order(self):
        scene = Scene(told(("a", 0, 1)))
        self.assertIsNone(scene.show("z", CUT_HILL, "lamp", "a"))
        self.assertIsNone(scene.show("m", SAMPLES["many"], "door", "start"))
        self.assertEqual(scene.shows, [("z", CUT_HILL, "lamp", "a"),
                                       ("m", SAMPLES["many"], "door", "start")])

    def test_shows_is_a_new_list(self):
        scene = hill_scene(0, 1)
        scene.shows.clear()
        self.assertEqual(len(scene.shows), 1)

    def test_scenes_do_not_share(self):
        book = told(("a", 0, 1))
        first, second = Scene(book), Scene(book)
        first.show("x", HILL_CLIP, "lamp", "a")
        self.assertEqual(second.shows, [])

    def test_faults_in_their_order(self):
        scene = hill_scene(0, 1)
        before = scene.shows
        self.refused("named twice", scene.show, "x", HILL_CLIP, "door", "b")
        self.refused("unknown property", scene.show, "y", HILL_CLIP, "door", "b")
        self.refused("unknown property", scene.show, "y", HILL_CLIP, "", "a")
        self.refused("unknown moment", scene.show, "y", HILL_CLIP, "lamp", "b")
        self.assertEqual(scene.shows, before)

    def test_too_many_shows(self):
        scene = hill_scene(0, 1)
        for at in range(SHOWS - 1):
            scene.show("y" + str(at), HILL_CLIP, "lamp", "a")
        before = scene.shows
        self.assertEqual(len(before), 6)
        self.refused("too many shows", scene.show, "z", HILL_CLIP, "lamp", "a")
        self.refused("unknown moment", scene.show, "z", HILL_CLIP, "lamp", "b")
        self.refused("unknown property", scene.show, "z", HILL_CLIP, "door", "b")
        self.refused("named twice", scene.show, "x", HILL_CLIP, "door", "b")
        self.assertEqual(scene.shows, before)

    def test_a_moment_that_the_book_gets_later(self):
        scene = hill_scene(0, 1)
        self.refused("unknown moment", scene.show, "y", HILL_CLIP, "lamp", "b")
        self.refused("unknown moment", scene.bounds, "x", "b")
        scene.book.add("b", (9, 1), (10, 1))
        scene.show("y", HILL_CLIP, "lamp", "b")
        self.assertEqual(scene.bounds("y", "b"), ((0, 1), (0, 1)))
        scene.book.tell("cue", "b", (1, 1), (2, 1))
        self.assertEqual(scene.bounds("x", "b"), ((3, 1), (4, 1)))

    def test_unknown_show_and_then_unknown_moment(self):
        scene = hill_scene(0, 1)
        fit = scene.book.earliest()
        facts = [("a", "nobody", (0, 1), (1, 1))]
        for name, moment, what in [("y", "a", "unknown show"), ("y", "b", "unknown show"),
                                   ("cue", "a", "unknown show"), ("x", "b", "unknown moment"),
                                   ("x", "x", "unknown moment")]:
            self.refused(what, scene.value, name, moment, fit)
            self.refused(what, scene.bounds, name, moment)
            self.refused(what, scene.witness, name, moment)
            self.refused(what, scene.witness, name, moment, greatest=True)
            self.refused(what, scene.says, name, moment, (0, 1), (1, 1))
            self.refused(what, scene.settled, name, moment, (0, 1), (1, 1), facts)
            self.refused(what, scene.settled, name, moment, (0, 1), (1, 1), [])

    def test_a_cue_that_was_taken_back(self):
        book = told(("a", 0, 1), ("cue", 0, 1))
        scene = Scene(book)
        scene.show("x", HILL_CLIP, "lamp", "cue")
        scene.show("y", HILL_CLIP, "lamp", "a")
        book.undo()
        self.refused("unknown moment", scene.bounds, "x", "a")
        self.refused("unknown moment", scene.value, "x", "a", book.earliest())
        self.refused("unknown moment", scene.settled, "x", "a", (0, 1), (1, 1), [])
        # The other show is not touched by this.
        self.assertEqual(scene.bounds("y", "a"), ((0, 1), (0, 1)))
        self.assertEqual(scene.settled("y", "start", (1, 1), (2, 1), []), 0)
        book.add("cue", (0, 1), (0, 1))
        self.assertEqual(scene.bounds("x", "cue"), ((0, 1), (0, 1)))


class Values(Scenes):
    def test_below_inside_and_beyond(self):
        scene = hill_scene(-9, 9)
        for number, expected in [(-9, 0), (F(-1, 3), 0), (0, 0), (1, 3), (2, 4), (F(7, 2), F(7, 4)),
                                 (4, 0), (F(13, 3), 0), (9, 0)]:
            fit = [("start", (0, 1)), ("cue", (5, 1)), ("a", pair(5 + F(number)))]
            self.assertTrue(scene.book.is_fit(fit))
            self.assertEqual(scene.value("x", "a", fit), n(expected))

    def test_at_both_ends_it_stays(self):
        scene = hill_scene(-9, 9, clip({"lamp": track(7, (2, -1, 0))}))
        for number, expected in [(-1, 7), (0, 7), (1, 6), (2, 5), (3, 5)]:
            fit = [("start", (0, 1)), ("cue", (0, 1)), ("a", n(number))]
            self.assertEqual(scene.value("x", "a", fit), n(expected))

    def test_all_samples(self):
        for seed in SEEDS:
            scene = scenemodel.random_scene(seed)
            fit = bookmodel.random_fit(scene.book, random.Random(seed))
            before = copy.deepcopy(fit)
            for show in scene.shows:
                for moment in scene.book.moments:
                    passed = bookmodel.passed(fit, show[3], moment)
                    found = scene.value(show[0], moment, fit)
                    self.assertEqual(found, pair(scenemodel.value(show, passed)))
                    least, greatest = scene.bounds(show[0], moment)
                    self.assertTrue(F(*least) <= F(*found) <= F(*greatest))
            self.assertEqual(fit, before)

    def test_at_its_cue(self):
        scene = hill_scene(1, 2)
        self.assertEqual(scene.value("x", "cue", scene.book.earliest()), (0, 1))
        self.assertEqual(scene.bounds("x", "cue"), ((0, 1), (0, 1)))


class Bounds(Scenes):
    def test_certain_bounds(self):
        for least, most, expected in [(1, 3, (3, 4)), (0, 4, (0, 4)), (F(1, 2), 1, (F(7, 4), 3)),
                                      (-5, 1, (0, 3)), (3, 9, (0, 3)), (-5, -1, (0, 0)), (5, 8, (0, 0)),
                                      (-9, 9, (0, 4)), (2, 2, (4, 4)), (F(3, 2), F(5, 2), (F(15, 4), 4)),
                                      (2, 3, (3, 4)), (1, 2, (3, 4))]:
            for some_clip in (HILL_CLIP, CUT_HILL):
                scene = hill_scene(least, most, some_clip)
                self.assertEqual(scene.bounds("x", "a"), tuple(map(pair, expected)))

    def test_the_scene_uses_the_book_as_it_is(self):
        scene = hill_scene(0, 4)
        self.assertEqual(scene.bounds("x", "a"), ((0, 1), (4, 1)))
        scene.book.tell("cue", "a", (0, 1), (1, 1))
        self.assertEqual(scene.bounds("x", "a"), ((0, 1), (3, 1)))
        scene.book.undo()
        self.assertEqual(scene.bounds("x", "a"), ((0, 1), (4, 1)))

    def test_all_samples(self):
        for seed in SEEDS:
            scene = scenemodel.random_scene(seed)
            for show in scene.shows:
                for moment in scene.book.moments:
                    span = bookmodel.span(scene.book.facts, show[3], moment)
                    found = scene.bounds(show[0], moment)
                    self.assertEqual(found, tuple(map(pair, scenemodel.extremes(show, *span))))
                    self.assertTrue(all(map(is_number, found)))


class Witnesses(Scenes):
    def test_certain_witnesses(self):
        for least, most, low, high in [(1, 3, 1, 2), (0, 4, 0, 2), (-5, 1, -5, 1), (3, 9, 4, 3),
                                       (-5, -1, -5, -5), (5, 8, 5, 5), (F(5, 2), 3, 3, F(5, 2)),
                                       (1, F(3, 2), 1, F(3, 2)), (2, 2, 2, 2), (-1, 5, -1, 2)]:
            for some_clip in (HILL_CLIP, CUT_HILL):
                scene = hill_scene(least, most, some_clip)
                self.assertEqual(scene.witness("x", "a"), scene.book.fit_with("cue", "a", n(low)))
                self.assertEqual(scene.witness("x", "a", greatest=False), scene.witness("x", "a"))
                self.assertEqual(scene.witness("x", "a", greatest=True),
                                 scene.book.fit_with("cue", "a", n(high)))

    def test_on_a_level(self):
        # Level 1 up to 1, level 4 from 2 to 4, level -1 from 5 on.
        for least, most, low, high in [(0, 9, 5, 2), (F(5, 2), 4, F(5, 2), F(5, 2)), (F(1, 2), 3, F(1, 2), 2),
                                       (-3, 1, -3, -3), (F(11, 2), 20, F(11, 2), F(11, 2)),
                                       (7, 20, 7, 7), (F(9, 2), 20, 5, F(9, 2))]:
            scene = hill_scene(least, most, LEVELS)
            self.assertEqual(scene.witness("x", "a"), scene.book.fit_with("cue", "a", n(low)))
            self.assertEqual(scene.witness("x", "a", greatest=True),
                             scene.book.fit_with("cue", "a", n(high)))

    def test_the_least_number_with_the_bound(self):
        for seed in SEEDS:
            scene = scenemodel.random_scene(seed)
            book = scene.book
            for show in scene.shows:
                for moment in book.moments:
                    low, high = bookmodel.span(book.facts, show[3], moment)
                    for greatest in (False, True):
                        fit = scene.witness(show[0], moment, greatest=greatest)
                        bound = F(*scene.bounds(show[0], moment)[greatest])
                        number = bookmodel.passed(fit, show[3], moment)
                        self.assertTrue(bookmodel.is_fit(book.moments, book.facts, fit))
                        self.assertEqual(fit, book.fit_with(show[3], moment, pair(number)))
                        self.assertEqual(scenemodel.value(show, number), bound)
                        earlier = [low + (high - low) * F(part, 24) for part in range(24)]
                        earlier += scenemodel.points(show, low, high)
                        for other in earlier:
                            if other < number:
                                self.assertNotEqual(scenemodel.value(show, other), bound)

    def test_greatest_is_passed_by_keyword(self):
        with self.assertRaises(TypeError):
            hill_scene(0, 1).witness("x", "a", True)

    def test_a_witness_is_new(self):
        scene = hill_scene(0, 1)
        scene.witness("x", "a").clear()
        self.assertEqual(len(scene.witness("x", "a")), 3)


class Saying(Scenes):
    def test_limits(self):
        scene = hill_scene(1, 3)
        # The bounds are 3 and 4.
        for low, high, expected in [(3, 4, True), (0, 9, True), (F(29, 10), F(41, 10), True),
                                    (3, F(39, 10), None), (F(31, 10), 4, None), (F(31, 10), F(39, 10), None),
                                    (0, 3, None), (4, 9, None), (0, F(29, 10), False),
                                    (F(41, 10), 9, False), (-5, -4, False), (-1, 0, False)]:
            self.assertIs(scene.says("x", "a", n(low), n(high)), expected, (low, high))

    def test_a_value_that_is_certain(self):
        scene = hill_scene(5, 9)
        for low, high, expected in [(0, 1, True), (-1, 0, True), (F(1, 100), 1, False),
                                    (-1, F(-1, 100), False)]:
            self.assertIs(scene.says("x", "a", n(low), n(high)), expected)

    def test_all_samples(self):
        found = []
        for seed in SEEDS:
            scene = scenemodel.random_scene(seed)
            source = random.Random(seed)
            for _ in range(10):
                question = scenemodel.random_question(scene, source)
                if question[0] == "value":
                    _, name, moment, low, high = question
                    show = show_of(scene, name)
                    bounds = scenemodel.extremes(show, *bookmodel.span(scene.book.facts, show[3], moment))
                    expected = scenemodel.says(*bounds, F(*low), F(*high))
                    self.assertIs(scene.says(name, moment, low, high), expected)
                    found.append(expected)
        self.assertGreater(min(found.count(each) for each in (True, False, None)), 25)


class Settling(Scenes):
    def facts(self, *rows):
        return [(first, second, n(least), n(most)) for first, second, least, most in rows]

    def test_how_many_facts_it_takes(self):
        scene = hill_scene(0, 4)
        facts = self.facts(("a", "cue", -3, 0), ("start", "cue", 0, 5), ("cue", "a", 1, 9),
                           ("cue", "a", 2, 3), ("a", "cue", F(-5, 2), F(-2)))
        for low, high, expected in [(0, 4, 0), (5, 6, 0), (3, 4, 3), (F(29, 10), 9, 3), (0, 2, 3),
                                    (F(7, 2), 4, 5), (F(15, 4), 4, 5), (F(16, 5), 9, 5), (0, 3, 5),
                                    (0, F(15, 4), None), (F(39, 10), 9, None)]:
            found = scene.settled("x", "a", n(low), n(high), facts)
            self.assertEqual((type(found), found), (type(expected), expected), (low, high))
        self.assertIs(type(scene.settled("x", "a", n(0), n(4), facts)), int)

    def test_without_facts(self):
        scene = hill_scene(0, 4)
        self.assertEqual(scene.settled("x", "a", n(0), n(4), []), 0)
        self.assertIsNone(scene.settled("x", "a", n(0), n(3), []))

    def test_a_fact_that_is_refused_before(self):
        scene = hill_scene(0, 4)
        for what, fact in [("unknown moment", ("a", "b", 0, 1)), ("same moment", ("a", "a", 0, 1)),
                           ("wrong span", ("a", "cue", 1, 0)), ("too great", ("a", "cue", -1001, 0)),
                           ("contradiction", ("cue", "a", 5, 6))]:
            facts = self.facts(("cue", "a", 0, 3), fact, ("cue", "a", 1, 3))
            with self.assertRaises(BookError) as caught:
                scene.settled("x", "a", n(3), n(4), facts)
            self.assertEqual(caught.exception.what, what)
            chain = [(3, True)] if what == "contradiction" else []
            self.assertEqual(caught.exception.chain, chain)
            # It does not matter behind the one that settles it, or if it is settled already.
            self.assertEqual(scene.settled("x", "a", n(0), n(4), facts), 0)
            ahead = self.facts(("cue", "a", 1, 3), fact)
            self.assertEqual(scene.settled("x", "a", n(3), n(4), ahead), 1)

    def test_too_many_facts(self):
        scene = hill_scene(0, 4)
        facts = self.facts(*[("cue", "a", 0, 4)] * 37, ("cue", "a", 1, 3))
        self.assertIsNone(scene.settled("x", "a", n(3), n(4), facts[:37]))
        with self.assertRaises(BookError) as caught:
            scene.settled("x", "a", n(3), n(4), facts)
        self.assertEqual(caught.exception.what, "too many facts")
        self.assertEqual(scene.settled("x", "a", n(3), n(4), facts[1:]), 37)

    def test_nothing_is_changed(self):
        scene = hill_scene(0, 4)
        facts = self.facts(("cue", "a", 0, 3), ("cue", "a", 1, 3))
        before = copy.deepcopy(facts), scene.book.branch(), scene.shows
        scene.settled("x", "a", n(3), n(4), facts)
        scene.settled("x", "a", n(0), n(3), facts)
        self.assertEqual((facts, scene.book, scene.shows), before)
        self.assertEqual(scene.bounds("x", "a"), ((0, 1), (4, 1)))

    def test_all_samples(self):
        counts = []
        for seed in SEEDS:
            scene = scenemodel.random_scene(seed)
            source = random.Random(seed)
            show = source.choice(scene.shows)
            moment = source.choice(scene.book.moments)
            # Facts that close in on a fit, so that none is refused.
            fit = bookmodel.random_fit(scene.book, source)
            facts = []
            for width in (6, 4, 3, 2, 1, F(1, 2), F(1, 4), 0):
                first, second = source.sample(scene.book.moments, 2)
                passed = bookmodel.passed(fit, first, second)
                facts.append((first, second, pair(passed - width), pair(passed + width)))
            least, greatest = (F(*bound) for bound in scene.bounds(show[0], moment))
            limits = pair(least - 1), pair((2 * least + greatest) / 3)
            branch = scene.book.branch()
            other = Scene(branch)
            other.show(*show)
            expected, rest = 0, list(facts)
            while other.says(show[0], moment, *limits) is None and rest:
                branch.tell(*rest.pop(0))
                expected += 1
            if other.says(show[0], moment, *limits) is None:
                expected = None
            self.assertEqual(scene.settled(show[0], moment, *limits, facts), expected)
            counts.append(expected)
        self.assertIn(None, counts)
        self.assertIn(0, counts)
        self.assertGreater(len({*counts}), 4)


class Interface(Scenes):
    def test_properties_without_setters(self):
        for name in ("book", "shows"):
            self.assertIsInstance(vars(Scene)[name], property)
            with self.assertRaises(AttributeError):
                setattr(Scene(Book()), name, 1)

    def test_all_is_defined_here(self):
        for name in ["show", "value", "bounds", "witness", "says", "settled"]:
            self.assertIn(name, vars(Scene))
        self.assertEqual(Scene.__module__, scenes.__name__)

    def test_the_names_of_the_arguments(self):
        scene = Scene(book=told(("a", 1, 3)))
        scene.show(name="x", clip=HILL_CLIP, prop="lamp", cue="start")
        fit = scene.witness(name="x", moment="a", greatest=True)
        self.assertEqual(scene.value(name="x", moment="a", fit=fit), (4, 1))
        self.assertEqual(scene.bounds(name="x", moment="a"), ((3, 1), (4, 1)))
        self.assertIs(scene.says(name="x", moment="a", low=(0, 1), high=(9, 1)), True)
        self.assertEqual(scene.settled(name="x", moment="a", low=(0, 1), high=(9, 1), facts=[]), 0)


if __name__ == "__main__":
    unittest.main()
