import copy
import itertools
import random
import unittest

from fallstones.errors import NoPush, NoWays
from fallstones.floors import Floor
from fallstones.floortexts import read_floor
from fallstones.races import races
from fallstones.runs import run
from fallstones.timetables import free_falls, is_timetable, timetable
from fallstones.ways import pushes_in
from tests import reference


def freed(stones):
    return {cell: (kind[0] if kind in reference.BLOCKS else kind, beats) for cell, (kind, beats) in stones.items()}


def rows_kept(stones, ways, told):
    """For each of the six rows of the document whether a dict from places to whole numbers keeps it."""
    pushes = ways[0] + ways[1]
    pushed = {place for place, _ in pushes}

    def knock(one):
        return told[one] + reference.beats(stones, one)

    def is_heavy(place):
        return stones[place[:2]][0] in reference.HEAVY

    def in_time(place):
        return [one for one in told if reference.knocks(stones, one, place) and knock(one) == told[place]]

    kept = [True] * 6
    kept[0] = set(told) == set(reference.run(freed(stones), pushes)[0])
    kept[1] = all(place in told and told[place] == beat for place, beat in pushes)
    for place in told:
        if is_heavy(place):
            knocks = [knock(one) for one in told if reference.knocks(stones, one, place)]
            kept[2] &= told[place] == max(knocks) if len(knocks) == 2 else place in pushed
        else:
            kept[4] &= place in pushed or in_time(place) != []
        for one in told:
            if reference.knocks(stones, one, place) and not is_heavy(place) and knock(one) != told[place]:
                kept[3] &= knock(one) > told[place] and one not in pushed and in_time(one) == [place]
            if reference.stops(stones, one, place):
                kept[5] &= knock(one) != told[place]
        # A place that is knocked has to be among those told.
        for other in reference.places(stones):
            if reference.knocks(stones, place, other) and not is_heavy(other) and other not in told:
                kept[3] = False
    return kept


class Case(unittest.TestCase):
    def assert_rows(self, text, ways, told, broken):
        """That a dict breaks just the told rows, numbered from 1, and is a timetable if there are none."""
        floor = read_floor(text)
        kept = rows_kept(floor.stones(), ways, told)
        self.assertEqual([at + 1 for at in range(6) if not kept[at]], broken)
        self.assertIs(is_timetable(floor, ways, told), broken == [])
        if broken == []:
            self.assertEqual(timetable(floor, ways), told)


class TestFreeFalls(unittest.TestCase):
    def test_without_stop_sides_as_the_run(self):
        chance = random.Random(1)
        kinds = [kind for kind in reference.KINDS if kind not in reference.BLOCKS]
        for _ in range(80):
            wide, high = chance.randint(1, 5), chance.randint(1, 5)
            stones = reference.random_stones(chance, wide, high, kinds + ["nesw"] * 20)
            pushes = reference.random_pushes(chance, stones)
            floor = Floor(wide, high, stones)
            self.assertEqual(free_falls(floor, pushes), run(floor, pushes)[0])

    def test_with_blocks(self):
        floor = read_floor("E1 Es3 E1\n. N1 .\n")
        self.assertEqual(free_falls(floor, [((0, 0, 0), 4), ((1, 1, 0), 0)]),
                         {(0, 0, 0): 4, (1, 0, 0): 5, (2, 0, 0): 8, (1, 1, 0): 0})
        for kind, (ins, outs, stop) in reference.BLOCKS.items():
            with self.subTest(kind):
                # All sides are knocked; only the in side counts.
                cross = {(1, 1): (kind, 2), (1, 0): ("S", 1), (2, 1): ("W", 1), (1, 2): ("N", 1), (0, 1): ("E", 1)}
                cells = {"n": (1, 0, 0), "e": (2, 1, 0), "s": (1, 2, 0), "w": (0, 1, 0)}
                pushes = [(cells[side], 0 if side == stop else 7) for side in "nesw" if side not in outs]
                self.assertEqual(free_falls(Floor(3, 3, cross), pushes), {**dict(pushes), (1, 1, 0): 8})

    def test_against_reference(self):
        chance = random.Random(2)
        for _ in range(80):
            wide, high = chance.randint(1, 5), chance.randint(1, 5)
            stones = reference.random_stones(chance, wide, high, reference.KINDS + ["nesw"] * 20)
            pushes = reference.random_pushes(chance, stones)
            self.assertEqual(free_falls(Floor(wide, high, stones), pushes), reference.run(freed(stones), pushes)[0])

    def test_no_pushes(self):
        self.assertEqual(free_falls(read_floor("E1 Es1\n"), []), {})

    def test_refused(self):
        floor = read_floor("E1 Es1\n")
        wrong = [[((9, 9, 9), 0)], [((0, 0, 0), -1)], [((0, 0, 0), True)], (((0, 0, 0), 0),), [[(0, 0, 0), 0]], [None]]
        for thing in wrong + reference.OTHER_THINGS:
            if thing != []:
                with self.subTest(thing=thing):
                    self.assertRaises(NoPush, free_falls, floor, thing)

    def test_ones_own(self):
        floor, pushes = read_floor("E1 Es3 E1\n. N1 .\n"), [((0, 0, 0), 4), ((1, 1, 0), 0)]
        before = dict(free_falls(floor, pushes))
        free_falls(floor, pushes).clear()
        self.assertEqual(free_falls(floor, pushes), before)
        self.assertEqual(pushes, [((0, 0, 0), 4), ((1, 1, 0), 0)])
        self.assertEqual(floor.stones()[1, 0], ("Es", 3))


class TestEachRow(Case):
    ONE, TWO, THREE, FOUR = (0, 0, 0), (1, 0, 0), (2, 0, 0), (3, 0, 0)

    def test_places(self):
        ways = ([], [(self.ONE, 0)])
        self.assert_rows("E1 E1 . E1\n", ways, {self.ONE: 0, self.TWO: 1}, [])
        self.assert_rows("E1 E1 . E1\n", ways, {self.ONE: 0, self.TWO: 1, self.FOUR: 5}, [1, 5])
        self.assert_rows("E1 E1 . E1\n", ways, {self.ONE: 0}, [1, 4])
        self.assert_rows("E1 E1 . E1\n", ways, {}, [1, 2])

    def test_a_heavy_place_too_few_breaks_the_first_row_alone(self):
        ways = ([], [((0, 0, 0), 0), ((2, 0, 0), 3)])
        told = {(0, 0, 0): 0, (2, 0, 0): 3, (1, 0, 0): 4}
        self.assert_rows("E1 Sew1 W1\n", ways, told, [])
        del told[1, 0, 0]
        self.assert_rows("E1 Sew1 W1\n", ways, told, [1])

    def test_pushed(self):
        self.assert_rows("E1\n", ([], [(self.ONE, 5)]), {self.ONE: 5}, [])
        for beat in (0, 4, 6, -5):
            self.assert_rows("E1\n", ([], [(self.ONE, 5)]), {self.ONE: beat}, [2])
        self.assert_rows("E1\n", ([(self.ONE, 5), (self.ONE, 5)], [(self.ONE, 5)]), {self.ONE: 5}, [])
        for ways in [([(self.ONE, 5)], [(self.ONE, 6)]), ([(self.ONE, 6), (self.ONE, 5)], [(self.ONE, 5)])]:
            self.assertIsNone(timetable(read_floor("E1\n"), ways))
            for beat in (5, 6):
                self.assert_rows("E1\n", ways, {self.ONE: beat}, [2])

    def test_pushed_and_knocked(self):
        self.assert_rows("E1 E1\n", ([(self.ONE, 3)], [(self.TWO, 4)]), {self.ONE: 3, self.TWO: 4}, [])
        self.assert_rows("E1 E1\n", ([(self.ONE, 3)], [(self.TWO, 3)]), {self.ONE: 3, self.TWO: 3}, [4])
        self.assert_rows("E1 E1\n", ([(self.ONE, 3)], [(self.TWO, 5)]), {self.ONE: 3, self.TWO: 4}, [2])
        self.assert_rows("E1 E1\n", ([(self.ONE, 3)], [(self.TWO, 5)]), {self.ONE: 3, self.TWO: 5}, [4])

    def test_heavy_with_both_knocks(self):
        west, heavy, east, south = (0, 0, 0), (1, 0, 0), (2, 0, 0), (1, 1, 0)
        ways = ([(west, 0)], [(east, 7)])
        text = "E2 Sew3 W4\n. S1 .\n"
        self.assert_rows(text, ways, {west: 0, east: 7, heavy: 11, south: 14}, [])
        for beat in (2, 10, 12):
            self.assert_rows(text, ways, {west: 0, east: 7, heavy: beat, south: beat + 3}, [3])
        pushed = ([(west, 0), (heavy, 11)], [(east, 7)])
        self.assert_rows(text, pushed, {west: 0, east: 7, heavy: 11, south: 14}, [])
        for beat in (2, 10, 12):
            pushed = ([(west, 0)], [(east, 7), (heavy, beat)])
            self.assert_rows(text, pushed, {west: 0, east: 7, heavy: 11, south: 14}, [2])
            self.assert_rows(text, pushed, {west: 0, east: 7, heavy: beat, south: beat + 3}, [3])
            self.assertIsNone(timetable(read_floor(text), pushed))

    def test_heavy_with_one_knock_and_a_push(self):
        west, heavy, east, south = (0, 0, 0), (1, 0, 0), (2, 0, 0), (1, 1, 0)
        text = "E2 Sew3 W4\n. S1 .\n"
        for beat in (0, 1, 2, 3, 9):
            ways = ([(west, 0)], [(heavy, beat)])
            self.assert_rows(text, ways, {west: 0, heavy: beat, south: beat + 3}, [])
        self.assert_rows(text, ([(heavy, 6)], [(heavy, 6)]), {heavy: 6, south: 9}, [])

    def test_heavy_with_one_knock_alone(self):
        west, heavy = (0, 0, 0), (1, 0, 0)
        text = "E2 Sew3 W4\n. S1 .\n"
        self.assert_rows(text, ([], [(west, 0)]), {west: 0}, [])
        self.assert_rows(text, ([], [(west, 0)]), {west: 0, heavy: 2, (1, 1, 0): 5}, [1, 3])

    def test_later_knocks_that_go_back(self):
        one, two, three = (0, 0, 0), (1, 0, 0), (2, 0, 0)
        self.assert_rows("ew1 ew2 ew3\n", ([], [(one, 4)]), {one: 4, two: 5, three: 7}, [])
        self.assert_rows("ew1 ew2 ew3\n", ([], [(two, 4)]), {one: 6, two: 4, three: 6}, [])
        # Both ends are pushed, and what is between is knocked in time from both: each knock back goes to a pushed place.
        self.assert_rows("ew2 ew2 ew2\n", ([(one, 0)], [(three, 0)]), {one: 0, two: 2, three: 0}, [4])
        self.assert_rows("E2 ew2 W2\n", ([(one, 0)], [(three, 0)]), {one: 0, two: 2, three: 0}, [])
        self.assert_rows("E2 ew2 ew2\n", ([(one, 0)], [(three, 0)]), {one: 0, two: 2, three: 0}, [4])
        # The one that knocks back is pushed itself.
        self.assert_rows("ew1 ew1\n", ([(one, 0)], [(two, 1)]), {one: 0, two: 1}, [4])
        self.assert_rows("E1 ew1\n", ([(one, 0)], [(two, 1)]), {one: 0, two: 1}, [])

    def test_later_knocks_that_do_not_go_back_to_one_alone(self):
        # The last stone of the ring is knocked in time by two, and goes back to each of them.
        told = {(0, 0, 0): 0, (1, 0, 0): 1, (0, 1, 0): 1, (1, 1, 0): 2}
        self.assert_rows("es1 sw1\nne1 nw1\n", ([], [((0, 0, 0), 0)]), told, [4])
        # Here it is knocked in time by one, and goes back to the other one, too, which isn't knocked by it alone.
        told = {(0, 0, 0): 0, (1, 0, 0): 1, (0, 1, 0): 1, (1, 1, 0): 2}
        self.assert_rows("es1 sw1\nne2 nw1\n", ([], [((0, 0, 0), 0)]), told, [4])

    def test_rows_that_part_and_come_together(self):
        # The northern row comes to the corner at beat 5, as one-way stones from which nothing goes back.
        for beats, broken in ((3, []), (2, [4]), (4, [4])):
            text = f"es1 E1 sw1\nns1 . S1\nne1 E{beats} nw1\n"
            told = {(0, 1, 0): 0, (0, 0, 0): 1, (1, 0, 0): 2, (2, 0, 0): 3, (2, 1, 0): 4, (0, 2, 0): 1, (1, 2, 0): 2,
                    (2, 2, 0): min(5, 2 + beats)}
            self.assert_rows(text, ([], [((0, 1, 0), 0)]), told, broken)
            if broken:
                self.assertIsNone(timetable(read_floor(text), ([], [((0, 1, 0), 0)])))

    def test_over_a_bridge(self):
        ways = ([((0, 1, 0), 0)], [((1, 0, 0), 7)])
        told = {(0, 1, 0): 0, (1, 0, 0): 7, (1, 1, 0): 1, (1, 1, 1): 8, (2, 1, 0): 4, (1, 2, 0): 11}
        self.assert_rows(". S1 .\nE1 x3 E1\n. S1 .\n", ways, told, [])

    def test_a_place_that_is_neither_pushed_nor_knocked_in_time(self):
        one, two, three = (0, 0, 0), (1, 0, 0), (2, 0, 0)
        self.assert_rows("E1 E1 . E1\n", ([], [(one, 0)]), {one: 0, two: 2}, [4, 5])
        self.assert_rows("E1 ew1 ew1\n", ([], [(one, 0)]), {one: 0, two: 0, three: 1}, [4, 5])

    def test_blocks(self):
        # The block is stopped from the south; it is due at 5.
        west, block, south = (0, 0, 0), (1, 0, 0), (1, 1, 0)
        text = "E2 Es1 .\n. N3 .\n"
        for beat, broken in ((0, []), (1, []), (2, [6]), (3, []), (9, [])):
            self.assert_rows(text, ([], [(west, 3), (south, beat)]), {west: 3, block: 5, south: beat}, broken)
        self.assertIsNone(timetable(read_floor(text), ([], [(west, 3), (south, 2)])))
        # Whoever is a block's stopper counts even where a block falls freely only.
        self.assert_rows("S1 .\nSe1 W1\n", ([((0, 0, 0), 0)], [((1, 1, 0), 0)]),
                         {(0, 0, 0): 0, (1, 1, 0): 0, (0, 1, 0): 1}, [6])
        # A block that doesn't fall may be stopped at any beat.
        self.assert_rows(text, ([], [(south, 2)]), {south: 2}, [])


class TestAnything(unittest.TestCase):
    FLOOR = read_floor("E1 E1\n")
    WAYS = ([], [((0, 0, 0), 0)])
    RIGHT = {(0, 0, 0): 0, (1, 0, 0): 1}

    def test_told(self):
        self.assertIs(is_timetable(self.FLOOR, self.WAYS, self.RIGHT), True)
        wrong = [
            {(0, 0, 0): 0, (1, 0, 0): True}, {(0, 0, 0): False, (1, 0, 0): 1}, {(0, 0, 0): "0", (1, 0, 0): 1},
            {(0, 0, 0): 0, (1, 0, 0): None}, {(0, 0, 0): [], (1, 0, 0): 1}, {(0, 0, 0): 0, (1, 0, 0): 1, (2, 0, 0): 2},
            {(0, 0, 0): 0, (1, 0, 0): 1, (0, 0): 0}, {(0, 0, 0): 0, (1, 0, 0): 1, None: 0},
            {(0, 0, 0): 0, (1, 0, 0): 1, "a": 0}, {(0, 0, 0): 0, (1, 0, 0): 1, (0, 0, 1): 0}, {(0, 0): 0, (1, 0): 1},
            {0: 0, 1: 1}, {(0, 0, 0): 0, (1, 0, 0): 1, frozenset(): 0}, {(0, 0, 0): 0, (1, 0, 0): reference.Plain()},
            [((0, 0, 0), 0), ((1, 0, 0), 1)], (self.RIGHT,), [self.RIGHT], {(0, 0, 0): 0}, {(1, 0, 0): 1},
        ]
        for thing in wrong + reference.OTHER_THINGS:
            with self.subTest(thing=thing):
                self.assertIs(is_timetable(self.FLOOR, self.WAYS, thing), False)

    def test_in_any_order(self):
        self.assertIs(is_timetable(self.FLOOR, self.WAYS, {(1, 0, 0): 1, (0, 0, 0): 0}), True)

    def test_no_ways(self):
        wrong = [([], []), ([], [((0, 0, 0), 0), ((0, 0, 0), 0)]), ([], [((9, 9, 9), 0)]), [[], [((0, 0, 0), 0)]],
                 ([], [((0, 0, 0), -1)]), ([], [((0, 0, 0), 0)], []), ([None], [((0, 0, 0), 0)])]
        for ways in wrong + reference.OTHER_THINGS:
            with self.subTest(ways=ways):
                self.assertRaises(NoWays, timetable, self.FLOOR, ways)
                for thing in (self.RIGHT, {}, None, 0):
                    self.assertRaises(NoWays, is_timetable, self.FLOOR, ways, thing)

    def test_ones_own(self):
        ways, thing = copy.deepcopy(self.WAYS), dict(self.RIGHT)
        timetable(self.FLOOR, ways).clear()
        self.assertEqual(timetable(self.FLOOR, ways), self.RIGHT)
        self.assertIs(is_timetable(self.FLOOR, ways, thing), True)
        self.assertIs(is_timetable(self.FLOOR, ways, {}), False)
        self.assertEqual((ways, thing), (self.WAYS, self.RIGHT))


class TestAgainstReference(unittest.TestCase):
    # Kinds that lead on one way are likelier to have a timetable.
    WEIGHED = [*reference.ONE_WAY] * 8 + [*reference.BLOCKS] * 3 + [*reference.HEAVY] * 2 + ["x"] * 8 + [*reference.OPEN] * 2

    def some(self, many, seed, wide=3, high=3):
        chance = random.Random(seed)
        for _ in range(many):
            stones = reference.random_stones(chance, wide, high, self.WEIGHED, 2)
            alls = reference.places(stones)
            if alls:
                ins = [(place, chance.randint(0, 3)) for place in chance.sample(alls, min(len(alls), chance.randint(1, 4)))]
                yield chance, Floor(wide, high, stones), stones, (reference.random_pushes(chance, stones, 1, 3), ins)

    def test_told_and_changed_ones(self):
        fitting = 0
        for chance, floor, stones, ways in self.some(300, 1):
            falls = free_falls(floor, ways[0] + ways[1])
            told = timetable(floor, ways)
            fits = all(rows_kept(stones, ways, falls))
            self.assertEqual(told, falls if fits else None)
            fitting += fits
            for _ in range(6):
                other = dict(falls)
                place = chance.choice(floor.places())
                if chance.random() < 0.3 and place in other:
                    del other[place]
                else:
                    other[place] = other.get(place, chance.randint(0, 5)) + chance.randint(-1, 1)
                self.assertIs(is_timetable(floor, ways, other), all(rows_kept(stones, ways, other)))
                if other != falls:
                    self.assertIs(is_timetable(floor, ways, other), False)
        self.assertGreater(fitting, 60)

    def test_no_other_one_is(self):
        fitting = 0
        for _, floor, stones, ways in self.some(60, 2, 2, 2):
            alls = floor.places()
            if len(alls) > 4:
                continue
            found = []
            for beats in itertools.product([None, 0, 1, 2, 3, 4, 5], repeat=len(alls)):
                thing = {place: beat for place, beat in zip(alls, beats) if beat is not None}
                if is_timetable(floor, ways, thing):
                    found.append(thing)
            told = timetable(floor, ways)
            self.assertEqual(found, [] if told is None else [told])
            fitting += len(found)
        self.assertGreater(fitting, 10)

    def test_each_place_falls_at_its_beat_or_never(self):
        fallen = blocks = 0
        for _, floor, stones, ways in itertools.chain(self.some(500, 3), self.some(300, 4, 5, 2)):
            told = timetable(floor, ways)
            if told is None:
                continue
            for choice in range(2 ** len(ways[1])):
                pushes = pushes_in(floor, ways, choice)
                falls, stopped = run(floor, pushes)
                self.assertEqual(falls, {place: told[place] for place in falls})
                self.assertEqual(races(floor, pushes), [])
                fallen += len(falls)
                blocks += len(stopped)
        self.assertGreater(fallen, 500)
        self.assertGreater(blocks, 10)


def snake():
    """A floor of 60 by 60 cells that is one long row, to and fro."""
    stones = {(x, y): ("ew", 2) for x in range(60) for y in range(60)}
    for y in range(59):
        side, upper, lower = (59, "sw", "nw") if y % 2 == 0 else (0, "es", "ne")
        stones[side, y] = (upper, 2)
        stones[side, y + 1] = (lower, 2)
    return Floor(60, 60, stones)


def along(k):
    x, y = k % 60, k // 60
    return (x if y % 2 == 0 else 59 - x, y, 0)


class TestLongRows(unittest.TestCase):
    def test_one_row(self):
        floor = Floor(60, 1, {(x, 0): ("E", 9999) for x in range(60)})
        ways = ([], [((0, 0, 0), 10 ** 29)])
        self.assertEqual(timetable(floor, ways), {(x, 0, 0): 10 ** 29 + 9999 * x for x in range(60)})

    def test_a_row_over_a_whole_floor(self):
        floor = snake()
        ways = ([], [(along(0), 5)])
        told = timetable(floor, ways)
        self.assertEqual(told, {along(k): 5 + 2 * k for k in range(3600)})
        self.assertIs(is_timetable(floor, ways, told), True)
        told[along(3599)] += 1
        self.assertIs(is_timetable(floor, ways, told), False)

    def test_pushed_in_the_middle_and_at_both_ends(self):
        floor = snake()
        self.assertEqual(timetable(floor, ([], [(along(1800), 0)])), {along(k): 2 * abs(k - 1800) for k in range(3600)})
        self.assertIsNone(timetable(floor, ([(along(0), 0)], [(along(3599), 0)])))


if __name__ == "__main__":
    unittest.main()
