import itertools
import random
import unittest

from fallstones.floors import Floor
from fallstones.floortexts import read_floor
from fallstones.races import races
from fallstones.runs import keeps_rules, run
from tests import reference

# A heavy stone in the middle of the lower row, knocked from n and from w.
HEAVY = read_floor(". S2 .\nE1 Enw3 E1\n")
HEAVY_N, HEAVY_W, HEAVY_AT, HEAVY_E = (1, 0, 0), (0, 1, 0), (1, 1, 0), (2, 1, 0)

# A block in the middle of the upper row, knocked from w and stopped from s.
BLOCK = read_floor("E1 Es3 E1\n. N1 .\n")
BLOCK_W, BLOCK_AT, BLOCK_E, BLOCK_S = (0, 0, 0), (1, 0, 0), (2, 0, 0), (1, 1, 0)


def snake():
    """A row over all of a floor of 60 by 60 cells: (floor, its places in order)."""
    cells = [(x if y % 2 == 0 else 59 - x, y) for y in range(60) for x in range(60)]
    stones = {}
    for at, (x, y) in enumerate(cells):
        near = [cells[k] for k in (at - 1, at + 1) if 0 <= k < len(cells)]
        sides = [side for side, (east, south) in reference.STEP.items() if (x + east, y + south) in near]
        kind = "".join(sides) if len(sides) == 2 else "nesw"
        stones[x, y] = (kind, at % 7 + 1)
    # The ends are open to all sides, so that they meet no neighbours but their own: those are not open to them.
    return Floor(60, 60, stones), [(x, y, 0) for x, y in cells]


class TestRows(unittest.TestCase):
    def test_nothing_falls(self):
        self.assertEqual(run(read_floor(".\n"), []), ({}, {}))
        self.assertEqual(run(BLOCK, []), ({}, {}))
        self.assertEqual(run(HEAVY, []), ({}, {}))

    def test_one_stone(self):
        floor = read_floor("ew5\n")
        self.assertEqual(run(floor, [((0, 0, 0), 0)]), ({(0, 0, 0): 0}, {}))
        self.assertEqual(run(floor, [((0, 0, 0), 3)]), ({(0, 0, 0): 3}, {}))

    def test_a_stone_falls_once_at_the_first_push(self):
        floor = read_floor("ew5\n")
        self.assertEqual(run(floor, [((0, 0, 0), 9), ((0, 0, 0), 4), ((0, 0, 0), 7), ((0, 0, 0), 4)]), ({(0, 0, 0): 4}, {}))

    def test_a_row(self):
        floor = read_floor("ew1 ew20 ew300 ew4\n")
        falls, stopped = run(floor, [((0, 0, 0), 5)])
        self.assertEqual(falls, {(0, 0, 0): 5, (1, 0, 0): 6, (2, 0, 0): 26, (3, 0, 0): 326})
        self.assertEqual(stopped, {})
        self.assertEqual(run(floor, [((2, 0, 0), 0)])[0], {(2, 0, 0): 0, (1, 0, 0): 300, (3, 0, 0): 300, (0, 0, 0): 320})

    def test_a_row_that_bends(self):
        floor = read_floor("es1 sw2\nns3 .\nne4 nw5\n")
        falls = run(floor, [((1, 0, 0), 0)])[0]
        self.assertEqual(falls, {(1, 0, 0): 0, (0, 0, 0): 2, (0, 1, 0): 3, (0, 2, 0): 6, (1, 2, 0): 10})

    def test_a_row_met_by_two_pushes(self):
        floor = read_floor("ew3 ew3 ew3 ew3 ew3\n")
        falls = run(floor, [((0, 0, 0), 0), ((4, 0, 0), 1)])[0]
        self.assertEqual(falls, {(0, 0, 0): 0, (1, 0, 0): 3, (2, 0, 0): 6, (3, 0, 0): 4, (4, 0, 0): 1})

    def test_one_ways_fall_one_way_only(self):
        floor = read_floor("E1 E1 E1\n")
        self.assertEqual(run(floor, [((1, 0, 0), 0)])[0], {(1, 0, 0): 0, (2, 0, 0): 1})

    def test_a_ring_falls_once(self):
        floor = read_floor("es1 sw1\nne1 nw1\n")
        falls = run(floor, [((0, 0, 0), 0)])[0]
        self.assertEqual(falls, {(0, 0, 0): 0, (1, 0, 0): 1, (0, 1, 0): 1, (1, 1, 0): 2})

    def test_bridges(self):
        floor = read_floor(". ns1 .\new1 x7 ew1\n. ns1 .\n")
        self.assertEqual(run(floor, [((0, 1, 0), 0)])[0], {(0, 1, 0): 0, (1, 1, 0): 1, (2, 1, 0): 8})
        self.assertEqual(run(floor, [((1, 2, 0), 0)])[0], {(1, 2, 0): 0, (1, 1, 1): 1, (1, 0, 0): 8})
        self.assertEqual(run(floor, [((1, 1, 1), 2)])[0], {(1, 1, 1): 2, (1, 0, 0): 9, (1, 2, 0): 9})

    def test_a_row_over_a_whole_floor(self):
        floor, row = snake()
        falls, stopped = run(floor, [(row[0], 10)])
        expected, beat = {}, 10
        for at, place in enumerate(row):
            expected[place] = beat
            beat += at % 7 + 1
        self.assertEqual((falls, stopped), (expected, {}))
        self.assertIs(keeps_rules(floor, [(row[0], 10)], falls, stopped), True)
        self.assertIs(keeps_rules(floor, [(row[0], 10)], {**falls, row[-1]: falls[row[-1]] + 1}, stopped), False)

    def test_a_floor_full_of_bridges(self):
        floor = Floor(60, 60, {(x, y): ("x", 9999) for x in range(60) for y in range(60)})
        falls = run(floor, [((0, 7, 0), 1), ((9, 59, 1), 2)])[0]
        self.assertEqual(falls[59, 7, 0], 59 * 9999 + 1)
        self.assertEqual(falls[9, 0, 1], 59 * 9999 + 2)
        self.assertEqual(len(falls), 120)

    def test_pushes_in_another_order(self):
        pushes = [(BLOCK_W, 4), (BLOCK_S, 3), (BLOCK_AT, 9), (BLOCK_W, 1), (BLOCK_E, 0)]
        told = {repr(sorted(run(BLOCK, list(order))[0].items())) for order in itertools.permutations(pushes)}
        self.assertEqual(len(told), 1)

    def test_beats_that_lie_far_apart(self):
        late = 10 ** 30 - 1
        floor = read_floor("ew9999 ew1 . ew1 ew1\n")
        falls = run(floor, [((0, 0, 0), late), ((3, 0, 0), 0), ((3, 0, 0), 10 ** 15)])[0]
        self.assertEqual(falls, {(0, 0, 0): late, (1, 0, 0): late + 9999, (3, 0, 0): 0, (4, 0, 0): 1})
        self.assertEqual(run(BLOCK, [(BLOCK_S, 10 ** 29), (BLOCK_W, 10 ** 29)])[1], {BLOCK_AT: 10 ** 29 + 1})
        self.assertEqual(run(HEAVY, [(HEAVY_N, 0), (HEAVY_W, late)])[0][HEAVY_E], late + 4)


class TestHeavy(unittest.TestCase):
    def falls(self, pushes):
        falls, stopped = run(HEAVY, pushes)
        self.assertEqual(stopped, {})
        self.assertIs(keeps_rules(HEAVY, pushes, falls, stopped), True)
        return falls

    def test_one_knock_is_not_enough(self):
        self.assertEqual(self.falls([(HEAVY_N, 0)]), {HEAVY_N: 0})
        self.assertEqual(self.falls([(HEAVY_W, 0)]), {HEAVY_W: 0})
        self.assertEqual(self.falls([(HEAVY_W, 0), (HEAVY_W, 5)]), {HEAVY_W: 0})

    def test_two_knocks_at_one_beat(self):
        self.assertEqual(self.falls([(HEAVY_N, 0), (HEAVY_W, 1)]), {HEAVY_N: 0, HEAVY_W: 1, HEAVY_AT: 2, HEAVY_E: 5})

    def test_two_knocks_at_two_beats(self):
        self.assertEqual(self.falls([(HEAVY_N, 0), (HEAVY_W, 0)]), {HEAVY_N: 0, HEAVY_W: 0, HEAVY_AT: 2, HEAVY_E: 5})
        self.assertEqual(self.falls([(HEAVY_N, 0), (HEAVY_W, 50)]), {HEAVY_N: 0, HEAVY_W: 50, HEAVY_AT: 51, HEAVY_E: 54})

    def test_a_push_alone(self):
        self.assertEqual(self.falls([(HEAVY_AT, 6)]), {HEAVY_AT: 6, HEAVY_E: 9})

    def test_a_push_and_knocks(self):
        both = [(HEAVY_N, 0), (HEAVY_W, 4)]
        self.assertEqual(self.falls(both + [(HEAVY_AT, 3)])[HEAVY_AT], 3)
        self.assertEqual(self.falls(both + [(HEAVY_AT, 5)])[HEAVY_AT], 5)
        self.assertEqual(self.falls(both + [(HEAVY_AT, 6)])[HEAVY_AT], 5)
        self.assertEqual(self.falls([(HEAVY_N, 0), (HEAVY_AT, 9)])[HEAVY_AT], 9)

    def test_from_its_out_side_it_is_not_knocked(self):
        floor = read_floor(". S2 .\n. Enw3 ew1\n")
        self.assertEqual(run(floor, [((1, 0, 0), 0), ((2, 1, 0), 0)])[0], {(1, 0, 0): 0, (2, 1, 0): 0})

    def test_every_heavy_kind(self):
        there = {"n": (1, 0), "e": (2, 1), "s": (1, 2), "w": (0, 1)}
        for kind, (ins, outs, _) in reference.HEAVY.items():
            stones = {cell: ("nesw", 2) for cell in there.values()}
            floor = Floor(3, 3, {**stones, (1, 1): (kind, 3)})
            one, other = [(*there[side], 0) for side in ins]
            with self.subTest(kind):
                self.assertEqual(run(floor, [(one, 0)])[0], {one: 0})
                falls = run(floor, [(one, 0), (other, 5)])[0]
                self.assertEqual(falls, {one: 0, other: 5, (1, 1, 0): 7, (*there[outs], 0): 10})


class TestBlocks(unittest.TestCase):
    def told(self, pushes):
        falls, stopped = run(BLOCK, pushes)
        self.assertIs(keeps_rules(BLOCK, pushes, falls, stopped), True)
        return falls, stopped

    def test_knocked_ahead_of_its_stop(self):
        told = self.told([(BLOCK_W, 0), (BLOCK_S, 1)])
        self.assertEqual(told, ({BLOCK_W: 0, BLOCK_AT: 1, BLOCK_E: 4, BLOCK_S: 1}, {}))

    def test_knocked_and_stopped_at_one_beat(self):
        self.assertEqual(self.told([(BLOCK_W, 5), (BLOCK_S, 5)]), ({BLOCK_W: 5, BLOCK_S: 5}, {BLOCK_AT: 6}))

    def test_knocked_behind_its_stop(self):
        self.assertEqual(self.told([(BLOCK_W, 1), (BLOCK_S, 0)]), ({BLOCK_W: 1, BLOCK_S: 0}, {BLOCK_AT: 1}))
        self.assertEqual(self.told([(BLOCK_W, 90), (BLOCK_S, 0)]), ({BLOCK_W: 90, BLOCK_S: 0}, {BLOCK_AT: 1}))

    def test_stopped_without_being_knocked(self):
        self.assertEqual(self.told([(BLOCK_S, 0)]), ({BLOCK_S: 0}, {BLOCK_AT: 1}))

    def test_knocked_without_being_stopped(self):
        self.assertEqual(self.told([(BLOCK_W, 0)]), ({BLOCK_W: 0, BLOCK_AT: 1, BLOCK_E: 4}, {}))

    def test_pushed_and_stopped(self):
        self.assertEqual(self.told([(BLOCK_AT, 0), (BLOCK_S, 0)]), ({BLOCK_AT: 0, BLOCK_S: 0, BLOCK_E: 3}, {}))
        self.assertEqual(self.told([(BLOCK_AT, 1), (BLOCK_S, 0)]), ({BLOCK_S: 0}, {BLOCK_AT: 1}))
        self.assertEqual(self.told([(BLOCK_AT, 2), (BLOCK_S, 0)]), ({BLOCK_S: 0}, {BLOCK_AT: 1}))
        self.assertEqual(self.told([(BLOCK_AT, 2), (BLOCK_S, 0), (BLOCK_W, 0)])[1], {BLOCK_AT: 1})

    def test_an_out_side_does_not_let_it_fall(self):
        floor = read_floor(". Es3 ew1\n")
        self.assertEqual(run(floor, [((2, 0, 0), 0)]), ({(2, 0, 0): 0}, {}))

    def test_a_block_stops_another_one(self):
        floor = read_floor("E1 Es1 E1\nE1 Nw1 .\n. N1 .\n")
        lower, upper = (1, 1, 0), (1, 0, 0)
        pushes = [((1, 2, 0), 0), ((0, 0, 0), 3)]
        self.assertEqual(run(floor, pushes), ({(1, 2, 0): 0, lower: 1, (0, 0, 0): 3}, {upper: 2}))
        pushes.append(((0, 1, 0), 0))
        falls, stopped = run(floor, pushes)
        self.assertEqual(stopped, {lower: 1})
        self.assertEqual(falls, {(1, 2, 0): 0, (0, 1, 0): 0, (0, 0, 0): 3, upper: 4, (2, 0, 0): 5})

    def test_a_stone_that_stops_what_knocked_it(self):
        # The block's own row comes round to its stop side, too late.
        floor = read_floor("Es1 sw1\nne1 nw1\n")
        falls, stopped = run(floor, [((0, 0, 0), 0)])
        self.assertEqual(falls, {(0, 0, 0): 0, (1, 0, 0): 1, (1, 1, 0): 2, (0, 1, 0): 3})
        self.assertEqual(stopped, {})


class TestKeepsRules(unittest.TestCase):
    PUSHES = [(BLOCK_W, 2), (BLOCK_S, 0), (BLOCK_E, 4)]

    def setUp(self):
        self.falls, self.stopped = run(BLOCK, self.PUSHES)

    def keeps(self, falls, stopped):
        told = keeps_rules(BLOCK, self.PUSHES, falls, stopped)
        self.assertIsInstance(told, bool)
        return told

    def test_the_run_keeps_them(self):
        self.assertEqual((self.falls, self.stopped), ({BLOCK_W: 2, BLOCK_S: 0, BLOCK_E: 4}, {BLOCK_AT: 1}))
        self.assertTrue(self.keeps(self.falls, self.stopped))

    def test_a_beat_that_is_changed(self):
        for place in self.falls:
            for more in (1, -1):
                self.assertFalse(self.keeps({**self.falls, place: self.falls[place] + more}, self.stopped))
        for more in (1, -1):
            self.assertFalse(self.keeps(self.falls, {BLOCK_AT: 1 + more}))

    def test_a_place_left_out(self):
        for place in self.falls:
            self.assertFalse(self.keeps({one: self.falls[one] for one in self.falls if one != place}, self.stopped))
        self.assertFalse(self.keeps(self.falls, {}))
        self.assertFalse(self.keeps({}, {}))

    def test_a_place_put_in(self):
        for beat in range(6):
            self.assertFalse(self.keeps({**self.falls, BLOCK_AT: beat}, self.stopped))
            for place in self.falls:
                self.assertFalse(self.keeps(self.falls, {**self.stopped, place: beat}))

    def test_a_place_moved(self):
        self.assertFalse(self.keeps({**self.falls, BLOCK_AT: 1}, {}))
        for place in self.falls:
            falls = {one: self.falls[one] for one in self.falls if one != place}
            self.assertFalse(self.keeps(falls, {**self.stopped, place: self.falls[place]}))

    def test_both_exchanged(self):
        self.assertFalse(self.keeps(self.stopped, self.falls))

    def test_what_is_no_place_in_them(self):
        for thing in [(2, 1, 0), (0, 0, 1), (0, 0), (9, 9, 9), "0,0,0", None, 0, (), (0, 0, None), (-1, 0, 0), b"", ("", 0, 0)]:
            with self.subTest(thing=thing):
                self.assertFalse(self.keeps({**self.falls, thing: 0}, self.stopped))
                self.assertFalse(self.keeps(self.falls, {**self.stopped, thing: 1}))

    def test_what_is_no_beat_in_them(self):
        for thing in [None, True, False, "0", "", [0], (0,), {}, -1, b"0", reference.Plain()]:
            with self.subTest(thing=thing):
                for place in self.falls:
                    self.assertFalse(self.keeps({**self.falls, place: thing}, self.stopped))
                self.assertFalse(self.keeps({**self.falls, BLOCK_AT: thing}, self.stopped))
                self.assertFalse(self.keeps(self.falls, {BLOCK_AT: thing}))
                self.assertFalse(self.keeps(self.falls, {**self.stopped, BLOCK_S: thing}))

    def test_truths_are_no_beats(self):
        floor = read_floor("ew1 ew1\n")
        pushes = [((0, 0, 0), 0)]
        self.assertIs(keeps_rules(floor, pushes, {(0, 0, 0): 0, (1, 0, 0): 1}, {}), True)
        self.assertIs(keeps_rules(floor, pushes, {(0, 0, 0): False, (1, 0, 0): 1}, {}), False)
        self.assertIs(keeps_rules(floor, pushes, {(0, 0, 0): 0, (1, 0, 0): True}, {}), False)
        self.assertIs(keeps_rules(BLOCK, [(BLOCK_S, 0)], {BLOCK_S: 0}, {BLOCK_AT: True}), False)

    def test_what_are_no_dicts(self):
        for thing in reference.OTHER_THINGS + [list(self.falls.items()), tuple(self.falls), set(self.falls), [{}], ({},)]:
            with self.subTest(thing=thing):
                self.assertFalse(self.keeps(thing, self.stopped))
                self.assertFalse(self.keeps(self.falls, thing))
                self.assertFalse(self.keeps(thing, thing))

    def test_no_dicts_where_nothing_falls(self):
        self.assertIs(keeps_rules(BLOCK, [], {}, {}), True)
        for thing in [None, [], (), "", 0, False, set()]:
            with self.subTest(thing=thing):
                self.assertIs(keeps_rules(BLOCK, [], thing, {}), False)
                self.assertIs(keeps_rules(BLOCK, [], {}, thing), False)

    def test_rings_do_not_hold_themselves(self):
        # Two stones that knock each other: neither falls by the other one alone, at no beats.
        floor = read_floor("ew1 ew1\n")
        for one, other in itertools.product(range(-3, 4), repeat=2):
            self.assertIs(keeps_rules(floor, [], {(0, 0, 0): one, (1, 0, 0): other}, {}), False)

    def test_nothing_else_keeps_them(self):
        floor = read_floor("E1 Es1\n. N1\n")
        alls = floor.places()
        choices = [None, 0, 1, 2]
        told = [
            {place: beat for place, beat in zip(alls, row) if beat is not None}
            for row in itertools.product(choices, repeat=len(alls))
        ]
        for pushes in [[((0, 0, 0), 0), ((1, 1, 0), 0)], [((0, 0, 0), 0), ((1, 1, 0), 1)], [((1, 1, 0), 0), ((1, 0, 0), 2)]]:
            right = run(floor, pushes)
            kept = [(one, other) for one in told for other in told if keeps_rules(floor, pushes, one, other)]
            self.assertEqual(kept, [right])

    def test_what_is_handed_in_stays(self):
        falls, stopped, pushes = dict(self.falls), dict(self.stopped), list(self.PUSHES)
        keeps_rules(BLOCK, pushes, falls, stopped)
        self.assertEqual((falls, stopped, pushes), (self.falls, self.stopped, self.PUSHES))


class TestAgainstReference(unittest.TestCase):
    def random_floor(self, chance, kinds):
        wide, high = chance.randint(1, 5), chance.randint(1, 5)
        stones = reference.random_stones(chance, wide, high, kinds)
        return Floor(wide, high, stones), stones

    def test_runs(self):
        chance = random.Random(8)
        weighed = reference.KINDS + [*reference.BLOCKS] * 2 + [*reference.HEAVY] + ["nesw", "x"] * 15
        for _ in range(400):
            floor, stones = self.random_floor(chance, weighed)
            pushes = reference.random_pushes(chance, stones)
            falls, stopped, raced = reference.run(stones, pushes)
            self.assertEqual(run(floor, pushes), (falls, stopped))
            self.assertEqual(races(floor, pushes), raced)
            self.assertIs(keeps_rules(floor, pushes, falls, stopped), True)
            self.assert_changed_ones_do_not_keep(chance, floor, pushes, falls, stopped)

    def assert_changed_ones_do_not_keep(self, chance, floor, pushes, falls, stopped):
        for place in floor.places():
            ones, others = dict(falls), dict(stopped)
            dicts = chance.choice([ones, others])
            if place in dicts and chance.random() < 0.4:
                del dicts[place]
            else:
                dicts[place] = dicts.get(place, 1) + chance.choice([1, -1])
            self.assertIs(keeps_rules(floor, pushes, ones, others), False)

    def test_all_pushes_later(self):
        chance = random.Random(9)
        weighed = reference.KINDS + ["nesw", "x"] * 10 + [*reference.BLOCKS]
        for later in (1, 2, 1000, 10 ** 29):
            for _ in range(40):
                floor, stones = self.random_floor(chance, weighed)
                pushes = reference.random_pushes(chance, stones)
                moved = [(place, beat + later) for place, beat in pushes]
                falls, stopped = run(floor, pushes)
                self.assertEqual(run(floor, moved)[0], {place: falls[place] + later for place in falls})
                self.assertEqual(run(floor, moved)[1], {place: stopped[place] + later for place in stopped})
                self.assertEqual(races(floor, moved), [(beat + later, place) for beat, place in races(floor, pushes)])


class TestOnesOwn(unittest.TestCase):
    def test_what_is_told_is_the_askers_own(self):
        pushes = [(BLOCK_W, 2), (BLOCK_S, 0)]
        falls, stopped = run(BLOCK, pushes)
        before = (dict(falls), dict(stopped))
        falls.clear()
        stopped[BLOCK_W] = 9
        self.assertEqual(run(BLOCK, pushes), before)
        self.assertIsInstance(run(BLOCK, pushes), tuple)

    def test_pushes_stay_and_are_not_kept(self):
        pushes = [(BLOCK_S, 3), (BLOCK_W, 2)]
        told = run(BLOCK, pushes)
        self.assertEqual(pushes, [(BLOCK_S, 3), (BLOCK_W, 2)])
        before = (dict(told[0]), dict(told[1]))
        pushes.clear()
        self.assertEqual(told, before)


if __name__ == "__main__":
    unittest.main()
