import random
import unittest

from fallstones.errors import NoText
from fallstones.floors import Floor
from fallstones.floortexts import floor_text, read_floor
from tests import reference


class TestWritten(unittest.TestCase):
    def assert_text(self, floor, text):
        self.assertEqual(floor_text(floor), text)
        again = read_floor(text)
        self.assertIsInstance(again, Floor)
        self.assertEqual((again.wide(), again.high()), (floor.wide(), floor.high()))
        self.assertEqual(again.stones(), floor.stones())
        self.assertEqual(floor_text(again), text)

    def test_one_cell(self):
        self.assert_text(Floor(1, 1, {}), ".\n")
        self.assert_text(Floor(1, 1, {(0, 0): ("x", 1)}), "x1\n")
        self.assert_text(Floor(1, 1, {(0, 0): ("Snw", 9999)}), "Snw9999\n")

    def test_the_documents_row(self):
        stones = {(0, 0): ("ew", 1), (1, 0): ("nes", 2), (3, 0): ("Es", 12)}
        self.assert_text(Floor(4, 1, stones), "ew1 nes2 . Es12\n")

    def test_rows_go_from_north_to_south(self):
        stones = {(2, 0): ("ew", 10), (0, 1): ("N", 100)}
        self.assert_text(Floor(3, 2, stones), ". . ew10\nN100 . .\n")
        self.assert_text(Floor(1, 3, {(0, 2): ("ns", 1)}), ".\n.\nns1\n")

    def test_every_kind(self):
        for kind in reference.KINDS:
            for beats in (1, 9, 10, 99, 100, 999, 1000, 9999):
                self.assert_text(Floor(2, 1, {(1, 0): (kind, beats)}), f". {kind}{beats}\n")

    def test_sixty_by_sixty(self):
        cells = [(x, y) for y in range(60) for x in range(60)]
        self.assert_text(Floor(60, 60, {}), (" ".join(["."] * 60) + "\n") * 60)
        self.assert_text(Floor(60, 60, {cell: ("nesw", 9999) for cell in cells}), (" ".join(["nesw9999"] * 60) + "\n") * 60)

    def test_sixty_by_one(self):
        self.assert_text(Floor(60, 1, {(59, 0): ("E", 1)}), ". " * 59 + "E1\n")
        self.assert_text(Floor(1, 60, {(0, 59): ("E", 1)}), ".\n" * 59 + "E1\n")

    def test_any_floors(self):
        chance = random.Random(7)
        for _ in range(100):
            wide, high = chance.randint(1, 8), chance.randint(1, 8)
            stones = reference.random_stones(chance, wide, high, reference.KINDS, 9999, chance.random())
            rows = [
                " ".join("".join(map(str, stones.get((x, y), "."))) for x in range(wide)) + "\n" for y in range(high)
            ]
            self.assert_text(Floor(wide, high, stones), "".join(rows))

    def test_unlike_orders_of_stones_have_one_text(self):
        one = {(0, 0): ("ew", 1), (1, 0): ("ns", 2)}
        other = {(1, 0): ("ns", 2), (0, 0): ("ew", 1)}
        self.assertEqual(floor_text(Floor(2, 1, one)), floor_text(Floor(2, 1, other)))


class TestRefused(unittest.TestCase):
    def assert_no_text(self, thing):
        with self.subTest(thing=thing):
            self.assertRaises(NoText, read_floor, thing)

    def test_line_feeds(self):
        for text in ["ew1", ". .", "ew1\n\n", "\new1\n", "ew1\n\new1\n", "\n", "", "\n\n", "ew1\new1", ".\n.\n\n", "ew1\r\n"]:
            self.assert_no_text(text)

    def test_another_sign_in_the_place_of_the_last_line_feed(self):
        for text in ["ew12", "..", "ew1.", "ew1 ", ".x", ". .\n. ew12", "ew1/"]:
            self.assert_no_text(text)

    def test_blanks(self):
        for text in [" ew1\n", "ew1 \n", "ew1  ew1\n", " \n", " ", "  \n", ".  .\n", ". \n", " .\n", ".\n .\n", "ew 1\n", "e w1\n"]:
            self.assert_no_text(text)

    def test_rows_of_unlike_lengths(self):
        for text in [". .\n.\n", ".\n. .\n", ". .\n. .\n.\n", ". .\n. . .\n"]:
            self.assert_no_text(text)

    def test_too_many(self):
        self.assert_no_text(" ".join(["."] * 61) + "\n")
        self.assert_no_text(".\n" * 61)
        self.assert_no_text((" ".join(["."] * 61) + "\n") * 61)
        self.assert_no_text(" ".join(["ew1"] * 61) + "\n")
        self.assert_no_text(".\n" * 5000)
        self.assert_no_text(". " * 5000 + ".\n")

    def test_beats(self):
        for word in ["ew0", "ew01", "ew00", "ew0001", "ew10000", "ew99999", "ew", "ew-1", "ew+1", "ew1.0", "ew1_0", "ew00001"]:
            self.assert_no_text(f"{word}\n")
            self.assert_no_text(f". {word}\n")
        self.assert_no_text("ew" + "1" * 50 + "\n")
        self.assert_no_text("ew" + "0" * 49 + "1\n")

    def test_kinds(self):
        for word in ["1", "we1", "nn1", "Ns1", "Nne1", "X1", "xx1", "n1", "e1w1", "1ew", "1ew1", "z1", "Ewe1", "nesw", "ew1ew1"]:
            self.assert_no_text(f"{word}\n")
            self.assert_no_text(f".\n{word}\n")

    def test_other_signs(self):
        for word in ["..", ".1", ".ew1", "ew1.", "0", ",", "ew1,", "ew1/", "-", "#", "ew1;", "(ew, 1)", "ew1\tew1", "\t", "~"]:
            self.assert_no_text(f"{word}\n")

    def test_things_that_are_no_texts(self):
        for thing in reference.OTHER_THINGS + [b"ew1\n", ["ew1\n"], ("ew1\n",), {"ew1\n": 1}, Floor(1, 1, {})]:
            self.assert_no_text(thing)


if __name__ == "__main__":
    unittest.main()
