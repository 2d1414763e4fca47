import itertools
import random
import unittest

from fallstones.errors import NoPlace, NotLight
from fallstones.floors import Floor
from fallstones.floortexts import read_floor
from fallstones.light import far, feeders, is_light, row_to
from fallstones.runs import run
from tests import reference

# A ring with a short and a long way round, and a one-way stone that leads out of it.
RING = read_floor("es1 ew2 sw3\nns9 . ns1\nne1 ew1 nesw4\n. . S5\n")
BRIDGES = read_floor(". S1 .\nE2 x3 E4\n. S5 .\n")


def least_sums(stones, one):
    """How far it is from a place to each other one, by going over all rows again and again."""
    told = {one: 0}
    changed = True
    while changed:
        changed = False
        for first, second in itertools.product(reference.places(stones), repeat=2):
            if first in told and reference.knocks(stones, first, second):
                there = told[first] + reference.beats(stones, first)
                if there < told.get(second, there + 1):
                    told[second] = there
                    changed = True
    return told


class TestIsLight(unittest.TestCase):
    def test_each_kind(self):
        for kind in reference.KINDS:
            with self.subTest(kind):
                self.assertIs(is_light(Floor(1, 1, {(0, 0): (kind, 1)})), kind in reference.LIGHT_KINDS)

    def test_floors(self):
        self.assertIs(is_light(Floor(3, 3, {})), True)
        self.assertIs(is_light(RING), True)
        self.assertIs(is_light(read_floor("ew1 x2 E3\n. . .\n")), True)
        self.assertIs(is_light(read_floor("ew1 ew1\n. Es1\n")), False)
        self.assertIs(is_light(read_floor("Sew1 ew1\n. .\n")), False)


class TestFar(unittest.TestCase):
    def test_to_itself(self):
        for place in RING.places():
            self.assertEqual(far(RING, place, place), 0)
            self.assertEqual(row_to(RING, place, place), [place])

    def test_along_a_row(self):
        floor = read_floor("ew1 ew20 ew300 ew4\n")
        self.assertEqual(far(floor, (0, 0, 0), (3, 0, 0)), 321)
        self.assertEqual(far(floor, (3, 0, 0), (0, 0, 0)), 324)
        self.assertEqual(row_to(floor, (3, 0, 0), (0, 0, 0)), [(3, 0, 0), (2, 0, 0), (1, 0, 0), (0, 0, 0)])

    def test_rows_that_come_together(self):
        corner = (2, 2, 0)
        self.assertEqual(far(RING, (0, 0, 0), corner), 7)
        self.assertEqual(row_to(RING, (0, 0, 0), corner), [(0, 0, 0), (1, 0, 0), (2, 0, 0), (2, 1, 0), corner])
        self.assertEqual(far(RING, (0, 1, 0), corner), 11)
        self.assertEqual(row_to(RING, (0, 1, 0), corner), [(0, 1, 0), (0, 2, 0), (1, 2, 0), corner])
        self.assertEqual(far(RING, corner, (0, 0, 0)), 10)
        self.assertEqual(far(RING, (0, 0, 0), (2, 3, 0)), 11)

    def test_not_reached(self):
        self.assertIsNone(far(RING, (2, 3, 0), (0, 0, 0)))
        self.assertIsNone(row_to(RING, (2, 3, 0), (2, 2, 0)))
        floor = read_floor("ew1 . ew1\n")
        self.assertIsNone(far(floor, (0, 0, 0), (2, 0, 0)))
        self.assertIsNone(row_to(floor, (0, 0, 0), (2, 0, 0)))

    def test_over_bridges(self):
        self.assertEqual(far(BRIDGES, (0, 1, 0), (2, 1, 0)), 5)
        self.assertEqual(row_to(BRIDGES, (0, 1, 0), (2, 1, 0)), [(0, 1, 0), (1, 1, 0), (2, 1, 0)])
        self.assertEqual(row_to(BRIDGES, (1, 0, 0), (1, 2, 0)), [(1, 0, 0), (1, 1, 1), (1, 2, 0)])
        self.assertEqual(far(BRIDGES, (1, 0, 0), (1, 1, 1)), 1)
        self.assertIsNone(far(BRIDGES, (1, 0, 0), (1, 1, 0)))
        self.assertIsNone(far(BRIDGES, (1, 0, 0), (2, 1, 0)))
        self.assertIsNone(far(BRIDGES, (1, 1, 0), (1, 1, 1)))

    def test_over_a_whole_floor(self):
        floor = Floor(60, 60, {(x, y): ("nesw", 2) for x in range(60) for y in range(60)})
        self.assertEqual(far(floor, (0, 0, 0), (59, 59, 0)), 2 * 118)
        self.assertEqual(len(row_to(floor, (0, 0, 0), (59, 59, 0))), 119)
        self.assertEqual(feeders(floor, (30, 30, 0)), floor.places())


class TestFeeders(unittest.TestCase):
    def test_feeders(self):
        alls = RING.places()
        self.assertEqual(feeders(RING, (2, 3, 0)), alls)
        self.assertEqual(feeders(RING, (0, 0, 0)), [place for place in alls if place != (2, 3, 0)])
        self.assertEqual(feeders(BRIDGES, (2, 1, 0)), [(0, 1, 0), (1, 1, 0), (2, 1, 0)])
        self.assertEqual(feeders(BRIDGES, (1, 1, 1)), [(1, 0, 0), (1, 1, 1)])
        self.assertEqual(feeders(BRIDGES, (0, 1, 0)), [(0, 1, 0)])
        self.assertEqual(feeders(read_floor("E1 E1 E1 W1 ew1\n"), (2, 0, 0)), [(0, 0, 0), (1, 0, 0), (2, 0, 0)])


class TestAgainstReference(unittest.TestCase):
    def floors(self, many, seed):
        chance = random.Random(seed)
        weighed = reference.LIGHT_KINDS + ["x", "nesw", "N", "E", "S", "W"] * 3
        for _ in range(many):
            wide, high = chance.randint(1, 4), chance.randint(1, 4)
            stones = reference.random_stones(chance, wide, high, weighed)
            yield chance, Floor(wide, high, stones), stones

    def test_far_rows_and_feeders(self):
        for _, floor, stones in self.floors(25, 11):
            alls = floor.places()
            tables = {one: least_sums(stones, one) for one in alls}
            for one, other in itertools.product(alls, repeat=2):
                least = tables[one].get(other)
                self.assertEqual(far(floor, one, other), least)
                self.assert_row(stones, one, other, row_to(floor, one, other), least)
            for other in alls:
                self.assertEqual(feeders(floor, other), [one for one in alls if other in tables[one]])

    def assert_row(self, stones, one, other, row, least):
        if least is None:
            self.assertIsNone(row)
            return
        self.assertIsInstance(row, list)
        self.assertEqual((row[0], row[-1]), (one, other))
        for first, second in zip(row, row[1:]):
            self.assertTrue(reference.knocks(stones, first, second))
        self.assertEqual(sum(reference.beats(stones, place) for place in row[:-1]), least)
        if one == other:
            self.assertEqual(row, [one])

    def test_several_pushes(self):
        for chance, floor, stones in self.floors(60, 12):
            pushes = reference.random_pushes(chance, stones, 5, 12)
            expected = {}
            for place, beat in pushes:
                for other, there in least_sums(stones, place).items():
                    expected[other] = min(beat + there, expected.get(other, beat + there))
            self.assertEqual(run(floor, pushes), (expected, {}))


class TestRefused(unittest.TestCase):
    WRONG = [
        (1, 1, 0), (0, 0, 1), (1, 1, 2), (9, 9, 9), (-1, 0, 0), (0, 0), (0, 0, 0, 0), [0, 0, 0], (False, 0, 0), (0, 0, False),
        "0,0,0", None, True, 0, (), {}, ([], 0, 0), reference.Plain(),
    ] + reference.OTHER_THINGS

    def test_no_place(self):
        for thing in self.WRONG:
            with self.subTest(thing=thing):
                self.assertRaises(NoPlace, feeders, RING, thing)
                for ask in (far, row_to):
                    self.assertRaises(NoPlace, ask, RING, thing, (0, 0, 0))
                    self.assertRaises(NoPlace, ask, RING, (0, 0, 0), thing)
                    self.assertRaises(NoPlace, ask, RING, thing, thing)

    def test_not_light_ahead_of_no_place(self):
        for text in ["ew1 ew1\n. Es1\n", "ew1 Sew1\n. .\n"]:
            floor = read_floor(text)
            for thing in self.WRONG + [(0, 0, 0)]:
                with self.subTest(thing=thing):
                    self.assertRaises(NotLight, feeders, floor, thing)
                    for ask in (far, row_to):
                        self.assertRaises(NotLight, ask, floor, thing, (0, 0, 0))
                        self.assertRaises(NotLight, ask, floor, (0, 0, 0), thing)


class TestOnesOwn(unittest.TestCase):
    def test_what_is_told_is_the_askers_own(self):
        one, other = (0, 0, 0), (2, 3, 0)
        before = (list(row_to(RING, one, other)), list(feeders(RING, other)))
        row_to(RING, one, other).clear()
        feeders(RING, other).append(one)
        self.assertEqual((row_to(RING, one, other), feeders(RING, other)), before)


if __name__ == "__main__":
    unittest.main()
