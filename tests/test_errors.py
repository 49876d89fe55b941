import unittest

from keptcalls import errors

NAMES = ["NoLibrary", "NoSlots", "NoHistory", "NoChoice", "NoLimit", "NoMenu", "NoPrices", "NoFunction", "NoNumber",
         "NoWorld", "NoWay"]


class TestErrors(unittest.TestCase):
    def test_the_first_is_derived_directly_from_value_error(self):
        self.assertEqual(errors.KeptError.__bases__, (ValueError,))
        self.assertEqual(str(errors.KeptError("a text")), "a text")

    def test_each_other_is_derived_directly_from_the_first(self):
        for name in NAMES:
            self.assertEqual(getattr(errors, name).__bases__, (errors.KeptError,), name)

    def test_there_are_no_others(self):
        found = [name for name, value in vars(errors).items() if isinstance(value, type)]
        self.assertEqual(sorted(found), sorted(NAMES + ["KeptError"]))

    def test_each_is_defined_in_its_file_under_its_name(self):
        for name in NAMES + ["KeptError"]:
            self.assertEqual(getattr(errors, name).__module__, "keptcalls.errors")
            self.assertEqual(getattr(errors, name).__name__, name)

    def test_each_is_made_from_a_text(self):
        for name in NAMES:
            self.assertEqual(str(getattr(errors, name)("what is wrong")), "what is wrong")

    def test_each_is_of_no_other_class_of_these(self):
        for name in NAMES:
            made = getattr(errors, name)("text")
            kinds = [other for other in NAMES if isinstance(made, getattr(errors, other))]
            self.assertEqual(kinds, [name])
            self.assertIsInstance(made, errors.KeptError)
            self.assertIsInstance(made, ValueError)
            self.assertNotIsInstance(errors.KeptError("text"), getattr(errors, name))

    def test_each_is_raised_and_caught_by_its_name_and_by_the_first(self):
        for name in NAMES:
            for caught in (getattr(errors, name), errors.KeptError, ValueError):
                with self.assertRaises(caught):
                    raise getattr(errors, name)("text")
