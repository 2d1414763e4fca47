import random
import unittest

from fallstones.errors import NoPlace, NoRoom
from fallstones.floors import Floor
from fallstones.floortexts import floor_text, read_floor
from fallstones.moves import beside, mirrored, mirrored_place, turned, turned_place
from fallstones.races import races, run_by
from fallstones.runs import run
from tests import reference

TURN = {"n": "e", "e": "s", "s": "w", "w": "n"}
MIRROR = {"n": "n", "e": "w", "s": "s", "w": "e"}
MOVES = [(turned, turned_place), (mirrored, mirrored_place)]
SIZES = [(1, 1), (1, 2), (2, 1), (1, 60), (60, 1), (2, 5), (7, 3), (60, 59), (59, 60), (60, 60)]


def moved_kind(kind, move):
    """The one kind that has the sides of another one moved: found among all, not made."""
    if kind == "x":
        return kind
    wanted = [sorted(move[side] for side in sides) for sides in reference.SIDED[kind]]
    (found,) = [other for other, told in reference.SIDED.items() if [sorted(sides) for sides in told] == wanted]
    return found


def whole(floor):
    return floor.wide(), floor.high(), floor.stones()


def random_floor(chance, wide=None, high=None, kinds=reference.KINDS, most_beats=3):
    wide, high = wide or chance.randint(1, 5), high or chance.randint(1, 5)
    stones = reference.random_stones(chance, wide, high, kinds, most_beats)
    return Floor(wide, high, stones), stones


class TestKinds(unittest.TestCase):
    def test_each_kind_alone(self):
        for kind in reference.KINDS:
            with self.subTest(kind):
                floor = Floor(1, 1, {(0, 0): (kind, 7)})
                self.assertEqual(turned(floor).stones(), {(0, 0): (moved_kind(kind, TURN), 7)})
                self.assertEqual(mirrored(floor).stones(), {(0, 0): (moved_kind(kind, MIRROR), 7)})

    def test_some_by_hand(self):
        self.assertEqual(floor_text(turned(read_floor("nw1 esw2 N3 W4 Es5 Wn6 Snw7 Nes8 x9\n"))),
                         "ne1\nnsw2\nE3\nN4\nSw5\nNe6\nWne7\nEsw8\nx9\n")
        self.assertEqual(floor_text(mirrored(read_floor("nw1 esw2 N3 W4 Es5 Wn6 Snw7 Nes8 x9\n"))),
                         "x9 Nsw8 Sne7 En6 Ws5 E4 N3 esw2 ne1\n")


class TestCells(unittest.TestCase):
    def test_each_size(self):
        chance = random.Random(1)
        for wide, high in SIZES:
            with self.subTest(wide=wide, high=high):
                floor, stones = random_floor(chance, wide, high)
                expected = {(high - 1 - y, x): (moved_kind(stones[x, y][0], TURN), stones[x, y][1]) for x, y in stones}
                self.assertEqual(whole(turned(floor)), (high, wide, expected))
                expected = {(wide - 1 - x, y): (moved_kind(stones[x, y][0], MIRROR), stones[x, y][1]) for x, y in stones}
                self.assertEqual(whole(mirrored(floor)), (wide, high, expected))
                self.assertEqual(whole(floor), (wide, high, stones))

    def test_bare_floors(self):
        self.assertEqual(whole(turned(Floor(3, 60, {}))), (60, 3, {}))
        self.assertEqual(whole(mirrored(Floor(3, 60, {}))), (3, 60, {}))

    def test_back_again(self):
        chance = random.Random(2)
        for wide, high in SIZES:
            floor, stones = random_floor(chance, wide, high)
            twice = turned(turned(floor))
            if stones and (wide, high) != (1, 1):
                self.assertEqual({(wide - 1 - x, high - 1 - y) for x, y in stones}, set(twice.stones()))
            self.assertEqual(whole(turned(turned(twice))), whole(floor))
            self.assertEqual(whole(mirrored(mirrored(floor))), whole(floor))


class TestPlaces(unittest.TestCase):
    def test_by_hand(self):
        floor = read_floor(". x1 .\nE1 . .\n")
        self.assertEqual(turned_place(floor, (0, 1, 0)), (0, 0, 0))
        self.assertEqual(turned_place(floor, (1, 0, 0)), (1, 1, 1))
        self.assertEqual(turned_place(floor, (1, 0, 1)), (1, 1, 0))
        self.assertEqual(mirrored_place(floor, (0, 1, 0)), (2, 1, 0))
        self.assertEqual(mirrored_place(floor, (1, 0, 0)), (1, 0, 0))
        self.assertEqual(mirrored_place(floor, (1, 0, 1)), (1, 0, 1))

    def test_all_places_come_to_all_places(self):
        chance = random.Random(3)
        for wide, high in SIZES:
            floor, stones = random_floor(chance, wide, high)
            for move, place_moved in MOVES:
                moved = move(floor)
                comes = [place_moved(floor, place) for place in floor.places()]
                self.assertEqual(sorted(comes), moved.places())
                self.assertEqual([moved.beats(there) for there in comes], [floor.beats(place) for place in floor.places()])

    def test_knocks_and_stops_come_along(self):
        chance = random.Random(4)
        for _ in range(60):
            floor, stones = random_floor(chance)
            for move, place_moved in MOVES:
                moved = move(floor)
                for place in floor.places():
                    there = place_moved(floor, place)
                    self.assertEqual(moved.beats(there), floor.beats(place))
                    for ask in ("knocked", "stopped", "knockers", "stoppers"):
                        expected = sorted(place_moved(floor, other) for other in getattr(floor, ask)(place))
                        self.assertEqual(getattr(moved, ask)(there), expected)

    def test_refused(self):
        floor = read_floor("ew1 . x2\n. . .\n")
        wrong = [(1, 0, 0), (0, 0, 1), (2, 0, 2), (3, 0, 0), (0, 1, 0), (-1, 0, 0), (0, 0), [0, 0, 0], (False, 0, 0)]
        for thing in wrong + reference.OTHER_THINGS:
            with self.subTest(thing=thing):
                self.assertRaises(NoPlace, turned_place, floor, thing)
                self.assertRaises(NoPlace, mirrored_place, floor, thing)


class TestFallLikewise(unittest.TestCase):
    def test_runs_and_races(self):
        chance = random.Random(5)
        raced = 0
        weighed = reference.KINDS + [*reference.BLOCKS] * 4 + ["nesw"] * 99
        for _ in range(250):
            floor, stones = random_floor(chance, chance.randint(3, 6), chance.randint(3, 6), weighed, chance.randint(1, 2))
            pushes = reference.random_pushes(chance, stones, 5, 2)
            firsts = [place for place in floor.places() if chance.random() < 0.5]
            falls, stopped = run(floor, pushes)
            raced += len(races(floor, pushes))
            for move, place_moved in MOVES:
                moved = move(floor)
                pushed = [(place_moved(floor, place), beat) for place, beat in pushes]
                self.assertEqual(run(moved, pushed), (
                    {place_moved(floor, place): beat for place, beat in falls.items()},
                    {place_moved(floor, place): beat for place, beat in stopped.items()},
                ))
                self.assertEqual(races(moved, pushed), sorted(
                    (beat, place_moved(floor, place)) for beat, place in races(floor, pushes)
                ))
                by_firsts = run_by(floor, pushes, firsts)
                self.assertEqual(run_by(moved, pushed, [place_moved(floor, place) for place in firsts]), tuple(
                    {place_moved(floor, place): beat for place, beat in told.items()} for told in by_firsts
                ))
        self.assertGreater(raced, 20)


class TestBeside(unittest.TestCase):
    def test_by_hand(self):
        high = read_floor("ew1 E2\n. Es3\nx4 N5\n")
        low = read_floor("S6 . W7\n")
        self.assertEqual(floor_text(beside(high, low)), "ew1 E2 S6 . W7\n. Es3 . . .\nx4 N5 . . .\n")
        self.assertEqual(floor_text(beside(low, high)), "S6 . W7 ew1 E2\n. . . . Es3\n. . . x4 N5\n")
        self.assertEqual(floor_text(beside(low, low)), "S6 . W7 S6 . W7\n")

    def test_many(self):
        chance = random.Random(6)
        for _ in range(80):
            one, left = random_floor(chance)
            other, right = random_floor(chance)
            wide = one.wide() + other.wide()
            expected = {**left, **{(one.wide() + x, y): stone for (x, y), stone in right.items()}}
            before = (whole(one), whole(other))
            self.assertEqual(whole(beside(one, other)), (wide, max(one.high(), other.high()), expected))
            self.assertEqual((whole(one), whole(other)), before)

    def test_the_one_knocks_the_other(self):
        one, other = read_floor("E2\n"), read_floor("E3 E1\n")
        falls = run(beside(one, other), [((0, 0, 0), 0)])[0]
        self.assertEqual(falls, {(0, 0, 0): 0, (1, 0, 0): 2, (2, 0, 0): 5})

    def test_room(self):
        def bare(wide):
            return Floor(wide, 1, {(0, 0): ("E", 1), (wide - 1, 0): ("E", 2)})

        for wide in (1, 29, 30, 31, 59):
            self.assertEqual(beside(bare(wide), bare(60 - wide)).wide(), 60)
            self.assertRaises(NoRoom, beside, bare(wide), bare(61 - wide))
            self.assertRaises(NoRoom, beside, bare(61 - wide), bare(wide))
        self.assertRaises(NoRoom, beside, bare(60), bare(60))
        self.assertEqual(beside(bare(30), bare(30)).wide(), 60)
        floor = bare(31)
        self.assertRaises(NoRoom, beside, floor, floor)
        self.assertEqual(whole(floor), whole(bare(31)))

    def test_sixty_high(self):
        told = beside(Floor(1, 60, {(0, 59): ("N", 1)}), Floor(1, 1, {}))
        self.assertEqual(whole(told), (2, 60, {(0, 59): ("N", 1)}))


class TestOnesOwn(unittest.TestCase):
    def test_asked_again(self):
        floor = read_floor("ew1 . x2\nEs3 Snw4 .\n")
        before = whole(floor)
        for ask in (turned, mirrored, lambda told: beside(told, told)):
            expected = whole(ask(floor))
            told = ask(floor)
            told.stones().clear()
            told.places().append((9, 9, 9))
            self.assertEqual(whole(ask(floor)), expected)
            self.assertEqual(whole(told), expected)
        self.assertEqual(whole(floor), before)


if __name__ == "__main__":
    unittest.main()
