import unittest

from narcissus import errors

NAMES = ("TooLarge", "BadText", "NoCode", "Ended", "OutOfSteps", "TooWide", "BadClaim")


class Errors(unittest.TestCase):
    def test_base(self):
        self.assertEqual(errors.NarcissusError.__bases__, (ValueError,))

    def test_each_derives_from_the_base_alone(self):
        for name in NAMES:
            with self.subTest(name):
                self.assertEqual(getattr(errors, name).__bases__, (errors.NarcissusError,))

    def test_each_can_be_raised_and_caught_by_its_own_name(self):
        for name in NAMES:
            with self.subTest(name):
                with self.assertRaises(getattr(errors, name)):
                    raise getattr(errors, name)("so")

    def test_no_other_classes(self):
        found = [name for name, value in vars(errors).items() if isinstance(value, type)]
        self.assertEqual(sorted(found), sorted(NAMES + ("NarcissusError",)))
        for name in found:
            self.assertEqual(getattr(errors, name).__module__, "narcissus.errors")


if __name__ == "__main__":
    unittest.main()
