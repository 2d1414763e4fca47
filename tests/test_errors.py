import unittest

from fallstones import errors

NAMES = [
    "NoFloor", "NoText", "NoPlace", "NoPush", "NotLight", "NoNumber", "NoRoom", "NoWays", "NoChoice", "NoNet",
    "NoArrivals", "NoLates", "NoTables", "NoRow", "CantBe", "NoTiming", "TooMany", "NoSay", "NoName",
]


class TestErrors(unittest.TestCase):
    def test_there_are_nineteen(self):
        self.assertEqual(len(set(NAMES)), 19)

    def test_fall_error_is_a_value_error(self):
        self.assertEqual(errors.FallError.__bases__, (ValueError,))
        self.assertEqual(str(errors.FallError("why")), "why")
        self.assertIsInstance(errors.FallError(), ValueError)

    def test_each_stands_straight_under_fall_error(self):
        for name in NAMES:
            with self.subTest(name):
                self.assertEqual(getattr(errors, name).__bases__, (errors.FallError,))

    def test_each_is_made_of_a_text_and_of_nothing(self):
        for name in NAMES:
            refusal = getattr(errors, name)
            for made in (refusal("why"), refusal()):
                with self.subTest(name):
                    self.assertIsInstance(made, errors.FallError)
                    self.assertIsInstance(made, ValueError)
                    for other in NAMES:
                        self.assertEqual(isinstance(made, getattr(errors, other)), name == other)
            self.assertEqual(str(refusal("why")), "why")

    def test_each_is_caught_as_itself_and_as_any_refusal(self):
        for name in NAMES:
            refusal = getattr(errors, name)
            for caught in (refusal, errors.FallError, ValueError):
                with self.subTest(name), self.assertRaises(caught):
                    raise refusal("why")


if __name__ == "__main__":
    unittest.main()
