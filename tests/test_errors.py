"""errors.py: the base classes of the errors, their attributes and the order of these."""

import unittest

from surecues import errors
from surecues.errors import (BookError, ClipError, CueError, NumberError, PlayError, SceneError,
                             TextError)

OTHERS = [NumberError, TextError, ClipError, PlayError, BookError, SceneError]


class Bases(unittest.TestCase):
    def test_the_base_class_is_a_value_error(self):
        self.assertEqual(CueError.__bases__, (ValueError,))

    def test_all_others_stand_directly_below_it(self):
        for error in OTHERS:
            self.assertEqual(error.__bases__, (CueError,), error)

    def test_none_of_the_others_is_a_base_class_of_another_one(self):
        for error in OTHERS:
            for other in OTHERS:
                self.assertEqual(issubclass(error, other), error is other, (error, other))

    def test_all_are_defined_in_this_file(self):
        for error in [CueError, *OTHERS]:
            self.assertEqual(error.__module__, "surecues.errors")

    def test_there_are_no_other_errors(self):
        found = [each for each in vars(errors).values() if isinstance(each, type)]
        self.assertCountEqual(found, [CueError, *OTHERS])


class Attributes(unittest.TestCase):
    def attributes(self, error):
        return vars(error)

    def test_the_number_error_has_none(self):
        self.assertEqual(self.attributes(NumberError()), {})

    def test_the_text_error_has_the_line_first(self):
        error = TextError(3, "not understood")
        self.assertEqual(self.attributes(error), {"line": 3, "what": "not understood"})

    def test_three_errors_have_what_alone(self):
        for kind in [ClipError, PlayError, SceneError]:
            error = kind("not later")
            self.assertEqual(self.attributes(error), {"what": "not later"}, kind)

    def test_the_book_error_has_what_first_and_a_list(self):
        error = BookError("contradiction", [(1, True), (0, False)])
        expected = {"what": "contradiction", "chain": [(1, True), (0, False)]}
        self.assertEqual(self.attributes(error), expected)
        self.assertEqual(BookError("too great", []).chain, [])

    def test_the_chain_of_an_error_is_its_own(self):
        chain = [(1, True)]
        error = BookError("contradiction", chain)
        error.chain.append((2, False))
        self.assertEqual(chain, [(1, True)])

    def test_the_attributes_have_these_names_as_arguments(self):
        self.assertEqual(TextError(what="no tracks", line=7).line, 7)
        for kind in [ClipError, PlayError, SceneError]:
            self.assertEqual(kind(what="not later").what, "not later", kind)
        self.assertEqual(BookError(chain=[(0, True)], what="contradiction").chain, [(0, True)])

    def test_they_can_be_raised_and_caught_as_cue_errors(self):
        for error in [NumberError(), TextError(1, "expected clip"), ClipError("empty cut"),
                      PlayError("not later"), BookError("too great", []), SceneError("named twice")]:
            with self.assertRaises(CueError) as caught:
                raise error
            self.assertIs(caught.exception, error)

    def test_each_attribute_has_to_be_given(self):
        for kind in [TextError, ClipError, PlayError, BookError, SceneError]:
            with self.assertRaises(TypeError):
                kind()
        for kind in [TextError, BookError]:
            with self.assertRaises(TypeError):
                kind("one value")


if __name__ == "__main__":
    unittest.main()
