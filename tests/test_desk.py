import random
import unittest

from fallstones.desk import Desk
from fallstones.errors import FallError, NoName, NoNumber, NoPlace, NoPush, NoRoom, NoSay, NotLight, NoText
from fallstones.floors import Floor
from fallstones.floortexts import floor_text, read_floor
from fallstones.light import far
from fallstones.moves import beside, mirrored, turned
from fallstones.races import races
from fallstones.runs import run
from fallstones.timers import timer
from tests import reference

HEAVY_TEXT = "E1 Es3 E1/. N1 ."
LIGHT_TEXT = "ew1 ew20 x3/. . ns4"


def shown(floor):
    return floor_text(floor)[:-1].replace("\n", "/")


def place_word(place):
    return ",".join(str(part) for part in place)


def push_words(pushes):
    return "".join(f" {place_word(place)}@{beat}" for place, beat in pushes)


class DeskCase(unittest.TestCase):
    def setUp(self):
        self.desk = Desk()
        self.say("floor a " + HEAVY_TEXT)
        self.say("floor light " + LIGHT_TEXT)

    def say(self, row):
        told = self.desk.say(row)
        self.assertIs(type(told), str)
        return told

    def kept(self):
        return [self.say("show a"), self.say("show light")]

    def assert_refused(self, error, row):
        before = self.kept()
        with self.subTest(row=row):
            with self.assertRaises(FallError) as caught:
                self.desk.say(row)
            self.assertIs(type(caught.exception), error)
            self.assertEqual(self.kept(), before)


class TestRows(DeskCase):
    def test_floor_and_show(self):
        for text in ("ew1", ".", "E1 Es3 E1/. N1 .", "x9999/./Snw12", ". ."):
            self.assertEqual(self.say("floor b " + text), "ok")
            self.assertEqual(self.say("show b"), text)

    def test_names(self):
        for name in ("b", "z", "abcdefgh", "floor", "show", "never", "zzzzzzzz"):
            self.assertEqual(self.say(f"floor {name} ew1"), "ok")
            self.assertEqual(self.say(f"show {name}"), "ew1")
            self.assertEqual(self.say(f"run {name} 0,0,0@4"), "1 0")

    def test_told_anew(self):
        self.assertEqual(self.say("floor a ew7"), "ok")
        self.assertEqual(self.kept(), ["ew7", LIGHT_TEXT])
        self.say("timer a 10000")
        self.assertEqual(self.say("show a"), "E9999 E1 E1")
        self.say("beside a light light")
        self.assertEqual(self.say("show a"), shown(beside(read_floor("ew1 ew20 x3\n. . ns4\n"), read_floor("ew1 ew20 x3\n. . ns4\n"))))

    def test_run(self):
        self.assertEqual(self.say("run a"), "0 0")
        self.assertEqual(self.say("run a 0,0,0@0"), "3 0")
        self.assertEqual(self.say("run a 0,0,0@0 1,1,0@0"), "2 1")
        self.assertEqual(self.say("run a 1,1,0@0"), "1 1")
        self.assertEqual(self.say("run a 1,1,0@5 1,1,0@5 0,0,0@999999999999999999999999999999"), "2 1")
        self.assertEqual(self.say("run light 2,0,1@0"), "2 0")

    def test_when(self):
        self.assertEqual(self.say("when a 2,0,0"), "never")
        self.assertEqual(self.say("when a 2,0,0 0,0,0@0"), "4")
        self.assertEqual(self.say("when a 0,0,0 0,0,0@0"), "0")
        self.assertEqual(self.say("when a 2,0,0 0,0,0@10 1,1,0@0"), "never")
        self.assertEqual(self.say("when a 2,0,0 1,1,0@0"), "never")
        self.assertEqual(self.say("when a 2,0,0 0,0,0@999999999999999999999999999999"), "1000000000000000000000000000003")

    def test_races(self):
        self.assertEqual(self.say("races a"), "none")
        self.assertEqual(self.say("races a 0,0,0@0"), "none")
        self.assertEqual(self.say("races a 0,0,0@0 1,1,0@0"), "1:1,0,0")
        self.assertEqual(self.say("races a 0,0,0@12 1,1,0@12"), "13:1,0,0")
        self.say("beside b a a")
        self.assertEqual(self.say("races b 0,0,0@5 1,1,0@5 3,0,0@0 4,1,0@0"), "1:4,0,0 6:1,0,0")
        self.assertEqual(self.say("races b 0,0,0@5 1,1,0@5 3,0,0@5 4,1,0@5"), "6:1,0,0 6:4,0,0")

    def test_turn_and_mirror(self):
        self.assertEqual(self.say("turn a"), "ok")
        self.assertEqual(self.say("show a"), ". S1/E1 Sw3/. S1")
        for _ in range(3):
            self.say("turn a")
        self.assertEqual(self.say("show a"), HEAVY_TEXT)
        self.assertEqual(self.say("mirror a"), "ok")
        self.assertEqual(self.say("show a"), "W1 Ws3 W1/. N1 .")
        self.say("mirror a")
        self.assertEqual(self.kept(), [HEAVY_TEXT, LIGHT_TEXT])

    def test_beside(self):
        self.assertEqual(self.say("beside b a light"), "ok")
        self.assertEqual(self.say("show b"), "E1 Es3 E1 ew1 ew20 x3/. N1 . . . ns4")
        self.assertEqual(self.kept(), [HEAVY_TEXT, LIGHT_TEXT])
        self.say("beside c light a")
        self.assertEqual(self.say("show c"), "ew1 ew20 x3 E1 Es3 E1/. . ns4 . N1 .")

    def test_beside_itself(self):
        self.assertEqual(self.say("beside a a a"), "ok")
        self.assertEqual(self.say("show a"), "E1 Es3 E1 E1 Es3 E1/. N1 . . N1 .")
        self.say("beside light a light")
        self.assertEqual(self.say("show light"), "E1 Es3 E1 E1 Es3 E1 ew1 ew20 x3/. N1 . . N1 . . . ns4")

    def test_timer(self):
        for k in (1, 9999, 10000, 500000):
            self.assertEqual(self.say(f"timer t {k}"), "ok")
            floor, first, last = timer(k)
            self.assertEqual(self.say("show t"), shown(floor))
            self.assertEqual(self.say(f"far t {place_word(first)} {place_word(last)}"), str(k))

    def test_far(self):
        self.assertEqual(self.say("far light 0,0,0 2,0,0"), "21")
        self.assertEqual(self.say("far light 2,0,0 0,0,0"), "23")
        self.assertEqual(self.say("far light 0,0,0 0,0,0"), "0")
        self.assertEqual(self.say("far light 0,0,0 2,0,1"), "never")
        self.assertEqual(self.say("far light 2,0,1 2,1,0"), "3")

    def test_against_the_functions(self):
        chance = random.Random(1)
        for _ in range(60):
            stones = reference.random_stones(chance, 4, 3, reference.KINDS)
            floor = Floor(4, 3, stones)
            pushes = reference.random_pushes(chance, stones)
            self.assertEqual(self.say("floor b " + shown(floor)), "ok")
            words = push_words(pushes)
            falls, stopped = run(floor, pushes)
            self.assertEqual(self.say("run b" + words), f"{len(falls)} {len(stopped)}")
            for place in floor.places():
                self.assertEqual(self.say(f"when b {place_word(place)}{words}"), str(falls.get(place, "never")))
            raced = " ".join(f"{beat}:{place_word(place)}" for beat, place in races(floor, pushes))
            self.assertEqual(self.say("races b" + words), raced or "none")
            self.say("turn b")
            self.assertEqual(self.say("show b"), shown(turned(floor)))
            self.say("mirror b")
            self.assertEqual(self.say("show b"), shown(mirrored(turned(floor))))

    def test_far_against_the_function(self):
        chance = random.Random(2)
        for _ in range(10):
            floor = Floor(3, 3, reference.random_stones(chance, 3, 3, reference.LIGHT_KINDS))
            self.say("floor b " + shown(floor))
            for one in floor.places():
                for other in floor.places():
                    told = far(floor, one, other)
                    self.assertEqual(self.say(f"far b {place_word(one)} {place_word(other)}"), "never" if told is None else str(told))


class TestNoSay(DeskCase):
    def test_things_that_are_no_texts(self):
        for thing in reference.OTHER_THINGS + [["show", "a"], ("show a",), b"show a", {"show a": 1}]:
            self.assert_refused(NoSay, thing)

    def test_other_words(self):
        for row in ("", " ", "  ", "say a", "Show a", "SHOW a", "shows a", "sho a", "a", "show", "\nshow a", "show\na",
                    "ok", "stop a", "name a", "floors a ew1", "0", "0,0,0", "floor"):
            self.assert_refused(NoSay, row)

    def test_blanks(self):
        rows = [
            "floor b ew1", "show a", "run a", "run a 0,0,0@0", "when a 2,0,0 0,0,0@0", "races a 0,0,0@0", "turn a", "mirror a",
            "beside b a a", "timer b 5", "far light 0,0,0 2,0,0",
        ]
        for row in rows:
            self.assert_refused(NoSay, " " + row)
            if not row.startswith("floor"):
                self.assert_refused(NoSay, row + " ")
            blanks = [at for at, sign in enumerate(row) if sign == " "]
            for at in blanks[:1] if row.startswith("floor") else blanks:
                self.assert_refused(NoSay, row[:at] + " " + row[at:])
                self.assert_refused(NoSay, row[:at] + "  " + row[at:])

    def test_words_too_many_or_too_few(self):
        for row in ("floor", "floor b", "floor b ", "show", "show a a", "show a a a", "run", "when", "when a", "races", "turn",
                    "turn a a", "mirror", "mirror a light", "beside", "beside b", "beside b a", "beside b a a a", "timer",
                    "timer b", "timer b 1 1", "far", "far light", "far light 0,0,0", "far light 0,0,0 0,0,0 0,0,0"):
            self.assert_refused(NoSay, row)

    def test_numbers(self):
        for word in ("01", "00", "-1", "+1", "-0", "1.0", "1e3", "one", "x", "1,", "1_0", "0x1", "@1", "1\n", "\n1", "'1'", "1k"):
            self.assert_refused(NoSay, "timer b " + word)
            self.assert_refused(NoSay, f"run a 0,0,0@{word}")
            for place in (f"{word},0,0", f"0,{word},0", f"0,0,{word}"):
                self.assert_refused(NoSay, f"when a {place}")
                self.assert_refused(NoSay, f"far light {place} 0,0,0")
                self.assert_refused(NoSay, f"far light 0,0,0 {place}")
                self.assert_refused(NoSay, f"run a {place}@0")
                self.assert_refused(NoSay, f"races a 0,0,0@0 {place}@0")

    def test_places_and_pushes(self):
        for word in ("0", "0,0", "0,0,0,0", ",0,0", "0,,0", "0,0,", ",,", ",", "(0,0,0)", "0;0;0", "0,0,0@0", "a"):
            self.assert_refused(NoSay, f"when a {word}")
            self.assert_refused(NoSay, f"when a {word} 0,0,0@0")
            self.assert_refused(NoSay, f"far light {word} 0,0,0")
        for word in ("0,0,0", "0,0,0@", "@0", "@", "0,0@0", "0,0,0,0@0", "0,0,0@0@0", "0,0,0@@0", "0,0,0@0,0,0", "a", "0"):
            self.assert_refused(NoSay, f"run a {word}")
            self.assert_refused(NoSay, f"races a 0,0,0@0 {word}")
            self.assert_refused(NoSay, f"when a 0,0,0 {word}")

    def test_ahead_of_all_others(self):
        for row in ("show A b", "timer A 01", "run none 0,0", "when none 9,9,9 x", "far none 0,0,0", "beside A b", "far a 0,0,0 x"):
            self.assert_refused(NoSay, row)


class TestNoName(DeskCase):
    def test_names_that_are_none(self):
        for name in ("abcdefghi", "A", "aB", "Abc", "a1", "1", "a_b", "a-b", ".", "a.", "a,b", "0,0,0", "a\nb", "a\n", "aaaaaaaaaaaa"):
            for row in (f"floor {name} ew1", f"timer {name} 5", f"beside {name} a a", f"show {name}", f"run {name}", f"turn {name}",
                        f"when {name} 0,0,0", f"races {name} 0,0,0@0", f"mirror {name}", f"far {name} 0,0,0 0,0,0",
                        f"beside b {name} a", f"beside b a {name}"):
                self.assert_refused(NoName, row)

    def test_nothing_is_kept(self):
        for name in ("b", "lights", "ligh", "aa", "floor"):
            for row in (f"show {name}", f"run {name}", f"turn {name}", f"when {name} 0,0,0", f"races {name} 0,0,0@0",
                        f"mirror {name}", f"far {name} 0,0,0 0,0,0", f"beside {name} {name} a", f"beside b a {name}"):
                self.assert_refused(NoName, row)
        self.assertRaises(NoName, Desk().say, "show a")

    def test_ahead_of_what_the_functions_refuse(self):
        self.say("timer long 500000")
        for row in ("floor A no", "floor B ew1\n", "timer A 0", "timer abcdefghi 500001", "beside A long long", "run b 9,9,9@9",
                    "when b 9,9,9 9,9,9@9", "races b 9,9,9@9", "far b 9,9,9 9,9,9"):
            self.assert_refused(NoName, row)

    def test_refused_names_are_not_kept(self):
        for row in ("floor b no", "floor b ew1/", "timer b 0", "timer b 500001"):
            self.assertRaises(FallError, self.desk.say, row)
            self.assertRaises(NoName, self.desk.say, "show b")


class TestRefused(DeskCase):
    def test_no_text(self):
        for text in ("no", "ew", "ew0", "ew01", "ew1/", "/ew1", "/", "//", " ", "  ", " ew1", "ew1 ", "ew1  ew1", "ew1/ew1 ew1",
                     "ew1\n", "ew1\new1", "\n", "ew1/ew1\n", "ew10000", " ".join(["."] * 61), "/".join(["."] * 61), "ew1 /ew1"):
            self.assert_refused(NoText, "floor b " + text)
            self.assert_refused(NoText, "floor a " + text)
        self.say("floor b " + " ".join(["."] * 60))
        self.say("floor b " + "/".join(["."] * 60))

    def test_no_number(self):
        for word in ("0", "500001", "1" + "0" * 40):
            self.assert_refused(NoNumber, "timer b " + word)
            self.assert_refused(NoNumber, "timer a " + word)

    def test_no_room(self):
        self.say("timer long 500000")
        self.assert_refused(NoRoom, "beside b long long")
        self.assert_refused(NoRoom, "beside a long long")
        self.say("timer eight 60000")
        self.say("beside b long eight")
        self.assertEqual(len(self.say("show b").split(" ")), 60)
        self.assert_refused(NoRoom, "beside b b a")

    def test_not_light(self):
        self.assert_refused(NotLight, "far a 0,0,0 2,0,0")
        self.assert_refused(NotLight, "far a 9,9,9 2,0,0")

    def test_no_place(self):
        for word in ("9,9,0", "0,1,0", "0,0,1", "3,0,0", "2,0,2", "100000000000000000000000000000,0,0"):
            self.assert_refused(NoPlace, f"far light {word} 0,0,0")
            self.assert_refused(NoPlace, f"far light 0,0,0 {word}")
            self.assert_refused(NoPlace, f"when light {word}")
            self.assert_refused(NoPlace, f"when light {word} 0,0,0@0")
            # Ahead of pushes that are none.
            self.assert_refused(NoPlace, f"when light {word} {word}@0")

    def test_no_push(self):
        for word in ("9,9,0@0", "0,1,0@5", "0,0,1@0", "2,0,2@0"):
            for row in (f"run light {word}", f"when light 0,0,0 {word}", f"races light {word}", f"run light 0,0,0@0 {word}"):
                self.assert_refused(NoPush, row)


class TestDesks(DeskCase):
    def test_two_desks(self):
        other = Desk()
        self.assertRaises(NoName, other.say, "show a")
        self.assertEqual(other.say("floor a ew5"), "ok")
        self.assertEqual(self.kept(), [HEAVY_TEXT, LIGHT_TEXT])
        self.say("turn a")
        self.assertEqual(other.say("show a"), "ew5")
        other.say("floor new ew1")
        self.assertRaises(NoName, self.desk.say, "show new")

    def test_asked_again(self):
        for row in ("show a", "run a 0,0,0@0", "when a 2,0,0 0,0,0@0", "races a 0,0,0@0 1,1,0@0", "far light 0,0,0 2,0,0"):
            self.assertEqual(self.say(row), self.say(row))
        self.assertEqual(self.kept(), [HEAVY_TEXT, LIGHT_TEXT])


class TestInterface(unittest.TestCase):
    def test_say_stands_in_the_class(self):
        self.assertIn("say", vars(Desk))


if __name__ == "__main__":
    unittest.main()
