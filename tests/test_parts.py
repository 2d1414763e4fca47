import random
import unittest

from fallstones.errors import NoRoom
from fallstones.floors import Floor
from fallstones.floortexts import floor_text, read_floor
from fallstones.moves import beside
from fallstones.parts import cut
from fallstones.runs import run
from tests import reference


def whole(floor):
    return floor.wide(), floor.high(), floor.stones()


def across(stones, x):
    """The crossing, by asking of all pairs of places."""
    alls = reference.places(stones)
    told = []
    for one in alls:
        for other in alls:
            if (one[0] < x) != (other[0] < x):
                if reference.knocks(stones, one, other):
                    told.append((one, "knocks", other))
                if reference.stops(stones, one, other):
                    told.append((one, "stops", other))
    return sorted(told)


def in_west(told, x):
    return {place: beat for place, beat in told.items() if place[0] < x}


def in_east(told, x):
    return {(place[0] - x, *place[1:]): beat for place, beat in told.items() if place[0] >= x}


class TestParts(unittest.TestCase):
    FLOOR = read_floor("ew1 Es2 . x3\n. N4 W5 Sew6\n")

    def test_by_hand(self):
        expected = {1: ("ew1\n.\n", "Es2 . x3\nN4 W5 Sew6\n"),
                    2: ("ew1 Es2\n. N4\n", ". x3\nW5 Sew6\n"),
                    3: ("ew1 Es2 .\n. N4 W5\n", "x3\nSew6\n")}
        for x, texts in expected.items():
            told = cut(self.FLOOR, x)
            self.assertIsInstance(told, tuple)
            west, east, crossing = told
            self.assertEqual((floor_text(west), floor_text(east)), texts)
            self.assertIsInstance(crossing, list)

    def test_widths(self):
        for wide in (2, 3, 59, 60):
            floor = Floor(wide, 60, {(0, 0): ("E", 1), (wide - 1, 59): ("N", 2)})
            for x in {1, 2, wide // 2, wide - 2, wide - 1} & set(range(1, wide)):
                west, east, crossing = cut(floor, x)
                self.assertEqual(whole(west), (x, 60, {(0, 0): ("E", 1)}))
                self.assertEqual(whole(east), (wide - x, 60, {(wide - 1 - x, 59): ("N", 2)}))
                self.assertEqual(crossing, [])

    def test_bare(self):
        west, east, crossing = cut(Floor(4, 2, {}), 1)
        self.assertEqual((whole(west), whole(east), crossing), ((1, 2, {}), (3, 2, {}), []))

    def test_put_together_again(self):
        chance = random.Random(1)
        for _ in range(60):
            wide, high = chance.randint(2, 6), chance.randint(1, 5)
            floor = Floor(wide, high, reference.random_stones(chance, wide, high, reference.KINDS))
            before = whole(floor)
            for x in range(1, wide):
                west, east, _ = cut(floor, x)
                self.assertEqual(whole(beside(west, east)), before)
            self.assertEqual(whole(floor), before)


class TestCrossing(unittest.TestCase):
    def test_both_ways(self):
        crossing = cut(read_floor("ew1 ew1 ew1\n"), 1)[2]
        self.assertEqual(crossing, [((0, 0, 0), "knocks", (1, 0, 0)), ((1, 0, 0), "knocks", (0, 0, 0))])
        self.assertEqual(cut(read_floor("E1 ew1 ew1\n"), 1)[2], [((0, 0, 0), "knocks", (1, 0, 0))])
        self.assertEqual(cut(read_floor("ew1 W1 ew1\n"), 1)[2], [((1, 0, 0), "knocks", (0, 0, 0))])
        self.assertEqual(cut(read_floor("W1 E1 ew1\n"), 1)[2], [])

    def test_stops(self):
        floor = read_floor(". S1 .\nE2 Sw3 .\n. . .\n. Ne4 W1\n. N1 .\n")
        self.assertEqual(cut(floor, 1)[2], [((0, 1, 0), "stops", (1, 1, 0))])
        self.assertEqual(cut(floor, 2)[2], [((2, 3, 0), "stops", (1, 3, 0))])

    def test_over_bridges(self):
        self.assertEqual(cut(read_floor("x1 x1\n"), 1)[2], [
            ((0, 0, 0), "knocks", (1, 0, 0)), ((1, 0, 0), "knocks", (0, 0, 0)),
        ])
        self.assertEqual(cut(read_floor("x1 Se1\n"), 1)[2], [])
        self.assertEqual(cut(read_floor("x1 Sw1\n"), 1)[2], [((0, 0, 0), "stops", (1, 0, 0))])

    def test_to_heavy_ones(self):
        self.assertEqual(cut(read_floor("E1 Snw1 ew1\n"), 1)[2], [((0, 0, 0), "knocks", (1, 0, 0))])
        self.assertEqual(cut(read_floor("E1 Snw1 ew1\n"), 2)[2], [])

    def test_only_across_the_cut(self):
        floor = read_floor("E1 E1 E1 E1 E1\n")
        for x in range(1, 5):
            self.assertEqual(cut(floor, x)[2], [((x - 1, 0, 0), "knocks", (x, 0, 0))])

    def test_sorted(self):
        floor = read_floor("nesw1 nesw1\nE1 Sw1\nx1 x1\nEn1 W1\n")
        crossing = cut(floor, 1)[2]
        self.assertEqual(crossing, sorted(crossing))
        self.assertEqual(crossing, across(floor.stones(), 1))
        self.assertIn(((0, 1, 0), "stops", (1, 1, 0)), crossing)

    def test_against_reference(self):
        chance = random.Random(2)
        for _ in range(120):
            wide, high = chance.randint(2, 5), chance.randint(1, 5)
            stones = reference.random_stones(chance, wide, high, reference.KINDS + ["nesw", "x"] * 5)
            for x in range(1, wide):
                self.assertEqual(cut(Floor(wide, high, stones), x)[2], across(stones, x))


class TestPartsAlone(unittest.TestCase):
    def floors(self, many, seed):
        """Floors with pushes and a cut across which all goes to the east."""
        chance = random.Random(seed)
        weighed = reference.KINDS + ["nesw"] * 15 + ["E", "x"] * 5
        while many:
            wide, high = chance.randint(2, 5), chance.randint(1, 3)
            stones = reference.random_stones(chance, wide, high, weighed)
            floor, x = Floor(wide, high, stones), chance.randint(1, wide - 1)
            crossing = cut(floor, x)[2]
            if crossing and all(other[0] >= x for _, _, other in crossing):
                many -= 1
                yield floor, stones, x, reference.random_pushes(chance, stones, 5, 9)

    def test_the_west_alone(self):
        for floor, stones, x, pushes in self.floors(150, 3):
            falls, stopped = run(floor, pushes)
            alone = run(cut(floor, x)[0], [(place, beat) for place, beat in pushes if place[0] < x])
            self.assertEqual(alone, (in_west(falls, x), in_west(stopped, x)))

    def test_the_east_with_the_knocks_that_come_across(self):
        tried = crossed = 0
        for floor, stones, x, pushes in self.floors(400, 4):
            west, east, crossing = cut(floor, x)
            if any(word == "stops" or floor.kind(other) in reference.HEAVY for _, word, other in crossing):
                continue
            falls, stopped = run(floor, pushes)
            eastern = [((place[0] - x, *place[1:]), beat) for place, beat in pushes if place[0] >= x]
            coming = [((other[0] - x, *other[1:]), falls[place] + floor.beats(place))
                      for place, _, other in crossing if place in falls]
            self.assertEqual(run(east, eastern + coming), (in_east(falls, x), in_east(stopped, x)))
            tried += 1
            crossed += len(coming)
        self.assertGreater(tried, 50)
        self.assertGreater(crossed, 30)


class TestRefused(unittest.TestCase):
    def test_refused(self):
        floor = Floor(3, 2, {(0, 0): ("E", 1)})
        wrong = [0, 3, 4, -1, -2, 10 ** 30, True, False, "1", "", None, [1], (1,), {1: 1}, b"1"]
        for thing in wrong + [thing for thing in reference.OTHER_THINGS if not isinstance(thing, int)]:
            with self.subTest(thing=thing):
                self.assertRaises(NoRoom, cut, floor, thing)
        self.assertEqual(whole(floor), (3, 2, {(0, 0): ("E", 1)}))

    def test_one_wide(self):
        for x in [-1, 0, 1, 2, 60, None, True]:
            self.assertRaises(NoRoom, cut, Floor(1, 5, {}), x)

    def test_edges_are_let(self):
        for wide in (2, 60):
            floor = Floor(wide, 1, {})
            self.assertEqual(cut(floor, 1)[0].wide(), 1)
            self.assertEqual(cut(floor, wide - 1)[1].wide(), 1)
            self.assertRaises(NoRoom, cut, floor, wide)
            self.assertRaises(NoRoom, cut, floor, 0)


class TestOnesOwn(unittest.TestCase):
    def test_asked_again(self):
        floor = read_floor("ew1 nesw2 x3\nE1 Sw1 .\n")
        west, east, crossing = cut(floor, 1)
        before = (whole(west), whole(east), list(crossing))
        west.stones().clear()
        east.stones().clear()
        crossing.clear()
        again = cut(floor, 1)
        self.assertEqual((whole(again[0]), whole(again[1]), again[2]), before)


if __name__ == "__main__":
    unittest.main()
