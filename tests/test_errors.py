import unittest

from talehands import errors

UNDER = ("NoText", "NoRow", "NoRooms", "NoPlot", "TooMany", "NoBook", "NoHand", "NoNames", "NoCall", "NoKept")


class Errors(unittest.TestCase):

    def test_each_is_a_tale_error_and_a_value_error(self):
        self.assertTrue(issubclass(errors.TaleError, ValueError))
        for name in UNDER:
            one = getattr(errors, name)
            self.assertTrue(issubclass(one, errors.TaleError), name)
            with self.assertRaises(ValueError):
                raise one("a")

    def test_none_is_under_another_one(self):
        for name in UNDER:
            for other in UNDER:
                under = issubclass(getattr(errors, name), getattr(errors, other))
                self.assertEqual(under, name == other, (name, other))

    def test_there_are_no_others(self):
        found = [name for name, one in vars(errors).items() if isinstance(one, type)]
        self.assertEqual(sorted(found), sorted(UNDER + ("TaleError",)))

    def test_fields_are_set_when_created(self):
        for number in (0, 7, None):
            self.assertEqual(errors.NoRow(number).number, number)
            self.assertEqual(errors.NoBook(number).number, number)
        self.assertEqual(errors.NoKept("tale").name, "tale")

    def test_each_has_a_message(self):
        for name in UNDER:
            self.assertNotEqual(str(getattr(errors, name)("a")), "")


if __name__ == "__main__":
    unittest.main()
