import itertools
import unittest

from fallstones.kinds import ins_of, is_kind, is_stone, outs_of, stop_of
from tests import reference


class TestIsKind(unittest.TestCase):
    def test_every_kind_is_one(self):
        self.assertEqual(len(reference.KINDS), 11 + 4 + 8 + 12 + 1)
        for kind in reference.KINDS:
            with self.subTest(kind):
                self.assertIs(is_kind(kind), True)

    def test_no_other_text_of_up_to_four_signs_is_one(self):
        signs = "neswNESWxX.1 \n"
        for many in range(5):
            for letters in itertools.product(signs, repeat=many):
                text = "".join(letters)
                if is_kind(text) is not (text in reference.KINDS):
                    self.fail(repr(text))

    def test_letters_out_of_order_twice_missing_or_too_many(self):
        for text in ["en", "we", "nse", "nwse", "nn", "nee", "nesww", "neswn", "n", "w", "", "nesw ", "xx", "nx"]:
            with self.subTest(text):
                self.assertIs(is_kind(text), False)

    def test_no_blocks(self):
        for text in ["Ns", "Nn", "Ew", "Ee", "Sn", "Ss", "We", "Ww", "NE", "Nx", "nE", "sE", "Es ", " Es"]:
            with self.subTest(text):
                self.assertIs(is_kind(text), False)

    def test_no_heavy_ones(self):
        for text in ["Nne", "Nns", "Nnw", "Nse", "Nws", "Nee", "Nesw", "Ene", "Ees", "Ewn", "Sns", "Wnw", "Wsw", "neN"]:
            with self.subTest(text):
                self.assertIs(is_kind(text), False)

    def test_other_things_are_none(self):
        for thing in reference.OTHER_THINGS:
            with self.subTest(thing=thing):
                self.assertIs(is_kind(thing), thing == "x")
        for thing in [b"ew", ["e", "w"], ("e", "w"), {"e": 1}, ["ew"], 5]:
            with self.subTest(thing=thing):
                self.assertIs(is_kind(thing), False)


class TestSides(unittest.TestCase):
    def test_sides_of_every_kind_but_the_bridge(self):
        for kind, (ins, outs, stop) in reference.SIDED.items():
            with self.subTest(kind):
                self.assertEqual(ins_of(kind), ins)
                self.assertEqual(outs_of(kind), outs)
                self.assertEqual(stop_of(kind), stop)

    def test_a_bridge_has_no_stop_side(self):
        self.assertEqual(stop_of("x"), "")


class TestIsStone(unittest.TestCase):
    def test_every_kind_makes_a_stone(self):
        for kind in reference.KINDS:
            with self.subTest(kind):
                self.assertIs(is_stone((kind, 1)), True)
                self.assertIs(is_stone((kind, 9999)), True)

    def test_beats(self):
        for beats in [1, 2, 10, 9998, 9999]:
            self.assertIs(is_stone(("ew", beats)), True)
        for beats in [0, -1, 10000, 10 ** 30, True, False, None, "1", "", (1,), [1], b"1"]:
            with self.subTest(beats=beats):
                self.assertIs(is_stone(("ew", beats)), False)

    def test_kinds(self):
        for kind in ["", "we", "Ee", "Nne", ".", None, True, 1, ("e", "w"), ["ew"], b"ew"]:
            with self.subTest(kind=kind):
                self.assertIs(is_stone((kind, 1)), False)

    def test_other_forms(self):
        for thing in [["ew", 1], ("ew",), ("ew", 1, 1), ("ew", 1, 0), (1, "ew"), "ew1", {"ew": 1}, {"ew", 1}, (("ew", 1),)]:
            with self.subTest(thing=thing):
                self.assertIs(is_stone(thing), False)
        for thing in reference.OTHER_THINGS:
            with self.subTest(thing=thing):
                self.assertIs(is_stone(thing), thing == ("ew", 1))


if __name__ == "__main__":
    unittest.main()
