import itertools
import random
import unittest

from fallstones.errors import NoPlace, NoPush
from fallstones.floors import Floor
from fallstones.floortexts import read_floor
from fallstones.races import races, run_by
from fallstones.runs import run
from tests import reference

BLOCK = read_floor("E1 Es3 E1\n. N1 .\n")
WEST, AT, EAST, SOUTH = (0, 0, 0), (1, 0, 0), (2, 0, 0), (1, 1, 0)

# Two blocks beside each other, each with a stone that knocks it and one that stops it; the second is knocked by the first, too.
TWO = read_floor("E1 Es1 Es1 E1\n. N1 N2 .\n")


class TestRaces(unittest.TestCase):
    def test_none(self):
        self.assertEqual(races(BLOCK, []), [])
        self.assertEqual(races(BLOCK, [(WEST, 0)]), [])
        self.assertEqual(races(BLOCK, [(SOUTH, 0)]), [])
        self.assertEqual(races(read_floor("ew1 ew1\n"), [((0, 0, 0), 0), ((1, 0, 0), 1)]), [])

    def test_one(self):
        self.assertEqual(races(BLOCK, [(WEST, 0), (SOUTH, 0)]), [(1, AT)])
        self.assertEqual(races(BLOCK, [(AT, 4), (SOUTH, 3)]), [(4, AT)])
        self.assertEqual(races(BLOCK, [(AT, 4), (WEST, 3), (SOUTH, 3)]), [(4, AT)])

    def test_a_beat_ahead(self):
        self.assertEqual(races(BLOCK, [(WEST, 0), (SOUTH, 1)]), [])
        self.assertEqual(races(BLOCK, [(WEST, 1), (SOUTH, 0)]), [])
        self.assertEqual(races(BLOCK, [(AT, 0), (WEST, 0), (SOUTH, 0)]), [])
        self.assertEqual(races(BLOCK, [(AT, 2), (WEST, 5), (SOUTH, 0)]), [])

    def test_several_sorted(self):
        floor = read_floor("Es1 Es1 Es1\nN1 N1 N1\n")
        pushes = [((x, y, 0), beat - y) for x, beat in ((0, 7), (1, 3), (2, 3)) for y in (0, 1)]
        expected = [(3, (1, 0, 0)), (3, (2, 0, 0)), (7, (0, 0, 0))]
        for order in itertools.permutations(pushes):
            self.assertEqual(races(floor, list(order)), expected)

    def test_a_race_keeps_another_one_from_coming(self):
        # The first block would knock the second one; stopped by its race it doesn't.
        pushes = [((0, 0, 0), 0), ((1, 1, 0), 0), ((2, 1, 0), 0)]
        self.assertEqual(races(TWO, pushes), [(1, (1, 0, 0))])

    def test_what_is_told_is_the_askers_own(self):
        pushes = [(WEST, 0), (SOUTH, 0)]
        races(BLOCK, pushes).clear()
        self.assertEqual(races(BLOCK, pushes), [(1, AT)])
        self.assertEqual(pushes, [(WEST, 0), (SOUTH, 0)])


class TestRunBy(unittest.TestCase):
    RACE = [(WEST, 0), (SOUTH, 0)]

    def test_without_firsts_it_is_the_run(self):
        for pushes in [[], self.RACE, [(WEST, 0)], [(SOUTH, 0)], [(WEST, 0), (SOUTH, 1)]]:
            self.assertEqual(run_by(BLOCK, pushes, []), run(BLOCK, pushes))

    def test_a_block_that_races(self):
        told = run_by(BLOCK, self.RACE, [AT])
        self.assertEqual(told, ({WEST: 0, SOUTH: 0, AT: 1, EAST: 4}, {}))
        self.assertIsInstance(told, tuple)
        self.assertEqual(run_by(BLOCK, [(AT, 1), (SOUTH, 0)], [AT]), ({SOUTH: 0, AT: 1, EAST: 4}, {}))

    def test_a_place_again_and_places_that_do_not_race(self):
        told = run_by(BLOCK, self.RACE, [AT])
        self.assertEqual(run_by(BLOCK, self.RACE, [AT, AT]), told)
        self.assertEqual(run_by(BLOCK, self.RACE, [WEST, AT, EAST, SOUTH, AT]), told)
        self.assertEqual(run_by(BLOCK, self.RACE, [WEST, EAST, SOUTH]), run(BLOCK, self.RACE))

    def test_a_block_that_does_not_race(self):
        for pushes in [[(WEST, 0), (SOUTH, 1)], [(WEST, 1), (SOUTH, 0)], [(SOUTH, 0)], [(AT, 9), (SOUTH, 0)]]:
            self.assertEqual(run_by(BLOCK, pushes, [AT]), run(BLOCK, pushes))

    def test_a_race_as_that_run_goes(self):
        # Let fall, the first block knocks the second one just as that one is stopped.
        pushes = [((0, 0, 0), 0), ((1, 1, 0), 0), ((2, 1, 0), 0)]
        one, other = (1, 0, 0), (2, 0, 0)
        pushed = {(0, 0, 0): 0, (1, 1, 0): 0, (2, 1, 0): 0}
        self.assertEqual(run(TWO, pushes), (pushed, {one: 1, other: 2}))
        self.assertEqual(run_by(TWO, pushes, [other]), (pushed, {one: 1, other: 2}))
        self.assertEqual(run_by(TWO, pushes, [one]), ({**pushed, one: 1}, {other: 2}))
        both = {**pushed, one: 1, other: 2, (3, 0, 0): 3}
        self.assertEqual(run_by(TWO, pushes, [one, other]), (both, {}))
        self.assertEqual(run_by(TWO, pushes, [other, one]), (both, {}))

    def test_refusals(self):
        wrong = [
            (0, 1, 0), (0, 0, 1), (9, 9, 9), [1, 0, 0], (1, 0), (1, 0, 0, 0), (True, 0, 0), (1, False, 0), (1, 0, False), None,
            "1,0,0", 0, True, (), [], {}, ((1, 0, 0), 1), reference.Plain(),
        ]
        for thing in wrong + reference.OTHER_THINGS:
            with self.subTest(thing=thing):
                self.assertRaises(NoPlace, run_by, BLOCK, self.RACE, [thing])
                self.assertRaises(NoPlace, run_by, BLOCK, self.RACE, [AT, thing])
                self.assertRaises(NoPlace, run_by, BLOCK, [], [thing, AT])
                self.assertRaises(NoPush, run_by, BLOCK, [(AT, -1)], [thing])
                self.assertRaises(NoPush, run_by, BLOCK, None, [thing])

    def test_what_is_handed_in_stays(self):
        firsts, pushes = [AT, AT, WEST], list(self.RACE)
        falls, stopped = run_by(BLOCK, pushes, firsts)
        self.assertEqual((firsts, pushes), ([AT, AT, WEST], self.RACE))
        falls.clear()
        stopped[AT] = 3
        self.assertEqual(run_by(BLOCK, pushes, firsts), ({WEST: 0, SOUTH: 0, AT: 1, EAST: 4}, {}))


class TestAgainstReference(unittest.TestCase):
    KINDS = [*reference.BLOCKS] * 3 + [*reference.HEAVY] + ["nesw"] * 40 + ["x"] * 4

    def racing_floors(self, many):
        """Floors, and pushes that bring blocks' knockers and stoppers to them at one beat, if nothing comes ahead."""
        chance = random.Random(10)
        for _ in range(many):
            wide, high = chance.randint(2, 5), chance.randint(2, 5)
            stones = reference.random_stones(chance, wide, high, self.KINDS, 2)
            floor = Floor(wide, high, stones)
            pushes = reference.random_pushes(chance, stones, 2)
            for block in floor.places():
                if floor.knockers(block) and floor.stoppers(block) and chance.random() < 0.5:
                    beat = chance.randint(2, 5)
                    for place in floor.knockers(block) + floor.stoppers(block):
                        pushes.append((place, beat - floor.beats(place)))
            yield chance, floor, stones, pushes[:40]

    def test_runs_by_firsts(self):
        changed = 0
        for chance, floor, stones, pushes in self.racing_floors(400):
            firsts = [place for place in floor.places() if chance.random() < 0.6]
            falls, stopped, _ = reference.run(stones, pushes, firsts)
            self.assertEqual(run_by(floor, pushes, firsts), (falls, stopped))
            changed += run_by(floor, pushes, firsts) != run(floor, pushes)
        self.assertGreater(changed, 40)

    def test_races_are_where_both_come_first_at_one_beat(self):
        raced = 0
        for _, floor, stones, pushes in self.racing_floors(400):
            falls = run(floor, pushes)[0]
            comes = {place: falls[place] + reference.beats(stones, place) for place in falls}
            expected = []
            for block in floor.places():
                dues = [beat for place, beat in pushes if place == block]
                dues += [comes[place] for place in comes if reference.knocks(stones, place, block)]
                stops = [comes[place] for place in comes if reference.stops(stones, place, block)]
                if dues and stops and min(dues) == min(stops):
                    expected.append((min(dues), block))
            self.assertEqual(races(floor, pushes), sorted(expected))
            raced += len(expected)
        self.assertGreater(raced, 40)


if __name__ == "__main__":
    unittest.main()
