"""Tests of surelabels.errors: point 0.3 and the interface's list of errors."""

from surelabels import errors
from surelabels.errors import LabelError
from tests.helpers import ATTRIBUTES, Case, things


class TestErrors(Case):

    def test_label_error_stands_directly_under_value_error(self):
        self.assertEqual(LabelError.__bases__, (ValueError,))

    def test_each_error_stands_directly_under_label_error(self):
        for name in ATTRIBUTES:
            with self.subTest(name):
                self.assertEqual(getattr(errors, name).__bases__, (LabelError,))

    def test_all_classes_are_unlike(self):
        self.assertEqual(len({id(getattr(errors, name)) for name in ATTRIBUTES}), len(ATTRIBUTES))

    def test_attributes_keep_what_was_passed(self):
        for name, attributes in ATTRIBUTES.items():
            for thing in things():
                with self.subTest(name, thing=repr(thing)[:50]):
                    error = getattr(errors, name)(*[thing] * len(attributes))
                    for attribute in attributes:
                        self.assertIs(getattr(error, attribute), thing)

    def test_each_attribute_keeps_its_own_argument(self):
        error = errors.BadWear(3, -1)
        self.assertEqual((error.state, error.index), (3, -1))

    def test_made_by_name(self):
        for name, attributes in ATTRIBUTES.items():
            with self.subTest(name):
                error = getattr(errors, name)(**{attribute: attribute + "!" for attribute in attributes})
                self.assertEqual([getattr(error, attribute) for attribute in attributes],
                                 [attribute + "!" for attribute in attributes])

    def test_made_with_just_these(self):
        for name, attributes in ATTRIBUTES.items():
            if attributes:
                with self.subTest(name):
                    self.assertRaises(TypeError, getattr(errors, name))
                    self.assertRaises(TypeError, getattr(errors, name), *[0] * (len(attributes) + 1))

    def test_raised_and_caught_by_each_name_above(self):
        for name, attributes in ATTRIBUTES.items():
            kind = getattr(errors, name)
            for above in (kind, LabelError, ValueError):
                with self.subTest(name, above=above), self.assertRaises(above):
                    raise kind(*[1] * len(attributes))

    def test_has_words(self):
        for name, attributes in ATTRIBUTES.items():
            with self.subTest(name):
                self.assertIsInstance(str(getattr(errors, name)(*["x"] * len(attributes))), str)
