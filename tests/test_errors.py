"""[2] and the interface: which errors there are and what they are made from."""

import unittest

from closedrings import errors
from closedrings.errors import NotRich, RingsError, TooGreat

OF_NOTHING = ["NoWeb", "NoTie", "NoText", "NoHeld", "NoPut", "NoRing", "NoWay", "NoRow", "NoNumber", "TooFew",
              "NothingBack"]
ALL = OF_NOTHING + ["NotRich", "TooGreat"]


class Errors(unittest.TestCase):

    def test_there_are_thirteen_and_their_base(self):
        kinds = [name for name, kind in vars(errors).items() if isinstance(kind, type)]
        self.assertEqual(sorted(kinds), sorted(ALL + ["RingsError"]))
        self.assertEqual(len(ALL), 13)

    def test_rings_error_is_made_from_value_error(self):
        self.assertEqual(RingsError.__bases__, (ValueError,))

    def test_each_is_made_from_rings_error_alone(self):
        for name in ALL:
            self.assertEqual(getattr(errors, name).__bases__, (RingsError,), name)

    def test_none_is_one_of_the_other_twelve(self):
        for name in ALL:
            for other in ALL:
                same = issubclass(getattr(errors, name), getattr(errors, other))
                self.assertEqual(same, name == other, (name, other))

    def test_those_of_nothing(self):
        for name in OF_NOTHING:
            error = getattr(errors, name)()
            self.assertIsInstance(error, RingsError)
            self.assertIsInstance(error, ValueError)
            self.assertEqual(vars(error), {}, name)

    def test_each_is_caught_as_the_bases(self):
        for error in [getattr(errors, name)() for name in OF_NOTHING] + [NotRich(0, 1), TooGreat(8)]:
            for base in (RingsError, ValueError):
                with self.assertRaises(base) as caught:
                    raise error
                self.assertIs(caught.exception, error)

    def test_not_rich_has_its_pair(self):
        for error in (NotRich(2, 5), NotRich(one=2, other=5), NotRich(other=5, one=2), NotRich(2, other=5)):
            self.assertEqual((error.one, error.other), (2, 5))
            self.assertEqual(vars(error), {"one": 2, "other": 5})

    def test_too_great_has_its_most(self):
        for error in (TooGreat(8), TooGreat(most=8)):
            self.assertEqual(vars(error), {"most": 8})

    def test_fields_are_needed(self):
        for make in (lambda: NotRich(), lambda: NotRich(1), lambda: TooGreat()):
            self.assertRaises(TypeError, make)

    def test_each_can_be_shown(self):
        for error in [getattr(errors, name)() for name in OF_NOTHING] + [NotRich(0, 1), TooGreat(8)]:
            self.assertIsInstance(str(error), str)
            self.assertIsInstance(repr(error), str)


if __name__ == "__main__":
    unittest.main()
