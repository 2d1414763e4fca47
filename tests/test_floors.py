import random
import unittest

from fallstones.errors import NoFloor, NoPlace
from fallstones.floors import Floor
from tests import reference


def around(kind, others):
    """A floor of 3 by 3 with a kind in the middle, and others at its sides, a dict."""
    cells = {"n": (1, 0), "e": (2, 1), "s": (1, 2), "w": (0, 1)}
    stones = {cells[side]: (other, 1) for side, other in others.items()}
    stones[1, 1] = (kind, 1)
    return Floor(3, 3, stones)


MIDDLE = (1, 1, 0)
NORTH, EAST, SOUTH, WEST = (1, 0, 0), (2, 1, 0), (1, 2, 0), (0, 1, 0)
ALL_OPEN = {"n": "nesw", "e": "nesw", "s": "nesw", "w": "nesw"}


class TestMade(unittest.TestCase):
    def test_sizes_that_are_let(self):
        for wide in (1, 2, 59, 60):
            for high in (1, 2, 59, 60):
                floor = Floor(wide, high, {})
                self.assertEqual((floor.wide(), floor.high()), (wide, high))

    def test_sizes_that_are_refused(self):
        wrong = [0, -1, 61, 1000, 10 ** 30, True, False, None, "1", "", [1], (1,), {1: 1}, reference.Plain(), b"1"]
        for size in wrong:
            with self.subTest(size=size):
                self.assertRaises(NoFloor, Floor, size, 1, {})
                self.assertRaises(NoFloor, Floor, 1, size, {})
                self.assertRaises(NoFloor, Floor, size, size, {})

    def test_stones_that_are_no_dict(self):
        for stones in [None, True, 0, "", "ew1", [], [((0, 0), ("ew", 1))], (), set(), ((0, 0), ("ew", 1)), reference.Plain()]:
            with self.subTest(stones=stones):
                self.assertRaises(NoFloor, Floor, 2, 2, stones)

    def test_cells_outside(self):
        for cell in [(-1, 0), (0, -1), (3, 0), (0, 2), (2, 2), (3, 1), (60, 60), (10 ** 30, 0), (-1, -1)]:
            with self.subTest(cell=cell):
                self.assertRaises(NoFloor, Floor, 3, 2, {cell: ("ew", 1)})
        for cell in [(0, 0), (2, 0), (0, 1), (2, 1)]:
            self.assertEqual(Floor(3, 2, {cell: ("ew", 1)}).stones(), {cell: ("ew", 1)})

    def test_what_is_no_cell(self):
        for cell in [0, None, "", "00", (), (0,), (0, 0, 0), ("0", "0"), (0, None), (None, 0), b"00", ((0, 0), 0), True]:
            with self.subTest(cell=cell):
                self.assertRaises(NoFloor, Floor, 3, 2, {cell: ("ew", 1)})
                self.assertRaises(NoFloor, Floor, 3, 2, {(0, 0): ("ew", 1), cell: ("ew", 1)})

    def test_what_is_no_stone(self):
        wrong = [("we", 1), ("ew", 0), ("ew", 10000), ("ew", True), ["ew", 1], ("ew",), ("ew", 1, 1), "ew1", None, (), 1]
        for stone in wrong:
            with self.subTest(stone=stone):
                self.assertRaises(NoFloor, Floor, 3, 2, {(0, 0): stone})
                self.assertRaises(NoFloor, Floor, 3, 2, {(1, 0): ("ew", 1), (0, 0): stone})

    def test_a_refusal_changes_nothing(self):
        stones = {(0, 0): ("ew", 1), (1, 0): ("we", 1)}
        self.assertRaises(NoFloor, Floor, 3, 2, stones)
        self.assertEqual(stones, {(0, 0): ("ew", 1), (1, 0): ("we", 1)})


class TestTold(unittest.TestCase):
    def test_no_stones_at_all(self):
        floor = Floor(4, 3, {})
        self.assertEqual((floor.wide(), floor.high(), floor.stones(), floor.places()), (4, 3, {}, []))
        self.assertRaises(NoPlace, floor.beats, (0, 0, 0))

    def test_stones_and_places(self):
        stones = {(2, 0): ("ew", 7), (0, 1): ("x", 9999), (0, 0): ("Es", 1), (1, 1): ("Snw", 12)}
        floor = Floor(3, 2, stones)
        self.assertEqual(floor.stones(), stones)
        self.assertEqual(floor.places(), [(0, 0, 0), (0, 1, 0), (0, 1, 1), (1, 1, 0), (2, 0, 0)])
        told = [floor.beats(place) for place in floor.places()]
        self.assertEqual(told, [1, 9999, 9999, 12, 7])

    def test_a_full_floor(self):
        floor = Floor(60, 60, {(x, y): ("x", 1) for x in range(60) for y in range(60)})
        alls = floor.places()
        self.assertEqual(len(alls), 7200)
        self.assertEqual(alls, sorted(alls))
        self.assertEqual(floor.knocked((59, 59, 0)), [(58, 59, 0)])
        self.assertEqual(floor.knocked((59, 59, 1)), [(59, 58, 1)])


class TestKnocks(unittest.TestCase):
    def test_an_open_one_at_all_four_sides(self):
        floor = around("nesw", ALL_OPEN)
        self.assertEqual(floor.knocked(MIDDLE), [WEST, NORTH, SOUTH, EAST])
        self.assertEqual(floor.knockers(MIDDLE), [WEST, NORTH, SOUTH, EAST])
        self.assertEqual((floor.stopped(MIDDLE), floor.stoppers(MIDDLE)), ([], []))

    def test_an_open_one_with_two_sides(self):
        floor = around("es", ALL_OPEN)
        self.assertEqual(floor.knocked(MIDDLE), [SOUTH, EAST])
        self.assertEqual(floor.knockers(MIDDLE), [SOUTH, EAST])
        self.assertEqual(floor.knocked(NORTH), [])
        self.assertEqual(floor.knocked(EAST), [MIDDLE])

    def test_one_ways(self):
        there = {"N": (NORTH, SOUTH), "E": (EAST, WEST), "S": (SOUTH, NORTH), "W": (WEST, EAST)}
        for kind, (behind, ahead) in there.items():
            with self.subTest(kind):
                floor = around(kind, ALL_OPEN)
                self.assertEqual(floor.knocked(MIDDLE), [behind])
                self.assertEqual(floor.knockers(MIDDLE), [ahead])
                self.assertEqual(floor.stoppers(MIDDLE), [])

    def test_one_ways_that_do_not_meet(self):
        floor = around("E", {"e": "W", "w": "W", "n": "S", "s": "N"})
        self.assertEqual((floor.knocked(MIDDLE), floor.knockers(MIDDLE)), ([], []))
        self.assertEqual(floor.knocked(NORTH), [])

    def test_blocks(self):
        there = {"n": NORTH, "e": EAST, "s": SOUTH, "w": WEST}
        for kind, (ins, outs, stop) in reference.BLOCKS.items():
            with self.subTest(kind):
                floor = around(kind, ALL_OPEN)
                self.assertEqual(floor.knocked(MIDDLE), [there[outs]])
                self.assertEqual(floor.knockers(MIDDLE), [there[ins]])
                self.assertEqual(floor.stoppers(MIDDLE), [there[stop]])
                self.assertEqual(floor.stopped(MIDDLE), [])
                for side, place in there.items():
                    self.assertEqual(floor.stopped(place), [MIDDLE] if side == stop else [])
                    self.assertEqual(floor.knocked(place), [MIDDLE] if side == ins else [])

    def test_a_block_is_stopped_by_out_sides_only(self):
        self.assertEqual(around("Es", {"s": "N"}).stoppers(MIDDLE), [SOUTH])
        self.assertEqual(around("Es", {"s": "S"}).stoppers(MIDDLE), [])
        self.assertEqual(around("Es", {"s": "ew"}).stoppers(MIDDLE), [])
        self.assertEqual(around("Es", {"s": "S"}).stopped(SOUTH), [])

    def test_a_place_may_stop_several(self):
        floor = Floor(3, 3, {(1, 1): ("nesw", 1), (1, 0): ("Es", 1), (1, 2): ("Wn", 1), (0, 1): ("Ne", 1), (2, 1): ("Sw", 1)})
        self.assertEqual(floor.stopped(MIDDLE), [WEST, NORTH, SOUTH, EAST])
        self.assertEqual(floor.knocked(MIDDLE), [])

    def test_heavy_ones(self):
        there = {"n": NORTH, "e": EAST, "s": SOUTH, "w": WEST}
        for kind, (ins, outs, stop) in reference.HEAVY.items():
            with self.subTest(kind):
                floor = around(kind, ALL_OPEN)
                self.assertEqual(floor.knocked(MIDDLE), [there[outs]])
                self.assertEqual(floor.knockers(MIDDLE), sorted(there[side] for side in ins))
                self.assertEqual(floor.stoppers(MIDDLE), [])

    def test_over_each_line_of_a_bridge(self):
        floor = around("x", ALL_OPEN)
        self.assertEqual(floor.places(), [WEST, NORTH, MIDDLE, (1, 1, 1), SOUTH, EAST])
        self.assertEqual(floor.knocked(MIDDLE), [WEST, EAST])
        self.assertEqual(floor.knockers(MIDDLE), [WEST, EAST])
        self.assertEqual(floor.knocked((1, 1, 1)), [NORTH, SOUTH])
        self.assertEqual(floor.knockers((1, 1, 1)), [NORTH, SOUTH])
        self.assertEqual([floor.knocked(place) for place in (WEST, EAST)], [[MIDDLE], [MIDDLE]])
        self.assertEqual([floor.knocked(place) for place in (NORTH, SOUTH)], [[(1, 1, 1)], [(1, 1, 1)]])
        self.assertEqual((floor.stoppers(MIDDLE), floor.stoppers((1, 1, 1))), ([], []))

    def test_a_bridge_beside_bridges_and_blocks(self):
        floor = around("x", {"e": "x", "s": "x", "n": "Es", "w": "Se"})
        self.assertEqual(floor.knocked(MIDDLE), [EAST])
        self.assertEqual(floor.knocked((1, 1, 1)), [(1, 2, 1)])
        self.assertEqual(floor.stopped((1, 1, 1)), [NORTH])
        self.assertEqual(floor.stopped(MIDDLE), [WEST])
        self.assertEqual(floor.stoppers(NORTH), [(1, 1, 1)])

    def test_edges(self):
        floor = Floor(2, 2, {(x, y): ("nesw", 1) for x in (0, 1) for y in (0, 1)})
        self.assertEqual(floor.knocked((0, 0, 0)), [(0, 1, 0), (1, 0, 0)])
        self.assertEqual(floor.knockers((1, 1, 0)), [(0, 1, 0), (1, 0, 0)])
        alone = Floor(1, 1, {(0, 0): ("nesw", 1)})
        self.assertEqual((alone.knocked((0, 0, 0)), alone.knockers((0, 0, 0))), ([], []))
        stop = Floor(1, 1, {(0, 0): ("Es", 1)})
        self.assertEqual((stop.stopped((0, 0, 0)), stop.stoppers((0, 0, 0))), ([], []))

    def test_no_row_goes_on_at_the_other_edge(self):
        floor = Floor(60, 1, {(0, 0): ("nesw", 1), (59, 0): ("nesw", 1)})
        self.assertEqual((floor.knocked((0, 0, 0)), floor.knocked((59, 0, 0))), ([], []))

    def test_against_the_reference(self):
        chance = random.Random(6)
        for _ in range(60):
            wide, high = chance.randint(1, 5), chance.randint(1, 5)
            stones = reference.random_stones(chance, wide, high, reference.KINDS)
            floor = Floor(wide, high, stones)
            alls = reference.places(stones)
            self.assertEqual(floor.places(), alls)
            for one in alls:
                self.assertEqual(floor.beats(one), reference.beats(stones, one))
                self.assertEqual(floor.knocked(one), [other for other in alls if reference.knocks(stones, one, other)])
                self.assertEqual(floor.knockers(one), [other for other in alls if reference.knocks(stones, other, one)])
                self.assertEqual(floor.stopped(one), [other for other in alls if reference.stops(stones, one, other)])
                self.assertEqual(floor.stoppers(one), [other for other in alls if reference.stops(stones, other, one)])


class TestNoPlaces(unittest.TestCase):
    def test_each_refuses_what_is_no_place(self):
        floor = Floor(3, 2, {(0, 0): ("ew", 1), (1, 0): ("x", 1), (1, 1): ("Es", 1)})
        wrong = [
            (2, 0, 0), (0, 1, 0), (0, 0, 1), (1, 1, 1), (1, 0, 2), (0, 0, 2), (0, 0, -1), (3, 0, 0), (-1, 0, 0), (0, -1, 0),
            (0, 2, 0), (60, 60, 0), (True, 0, 0), (False, 0, 0), (0, False, 0), (0, 0, False), (1, 0, True), (1, True, 0),
            [0, 0, 0], (0, 0), (0, 0, 0, 0), (), "0,0,0", "000", None, 0, True, ((0, 0), 0), ("0", "0", "0"), b"\0\0\0",
            (0, 0, None), (None, 0, 0), ([0], 0, 0), ({}, 0, 0), (0, [], 0), {(0, 0, 0): 1}, {}, set(), reference.Plain(),
            (10 ** 30, 0, 0),
        ] + reference.OTHER_THINGS
        for thing in wrong:
            for ask in (floor.beats, floor.knocked, floor.stopped, floor.knockers, floor.stoppers, floor.kind):
                with self.subTest(thing=thing, ask=ask.__name__):
                    self.assertRaises(NoPlace, ask, thing)

    def test_what_is_one_is_not_refused(self):
        floor = Floor(3, 2, {(0, 0): ("ew", 1), (1, 0): ("x", 1), (1, 1): ("Es", 1)})
        for place in [(0, 0, 0), (1, 0, 0), (1, 0, 1), (1, 1, 0)]:
            for ask in (floor.knocked, floor.stopped, floor.knockers, floor.stoppers):
                self.assertIsInstance(ask(place), list)
            self.assertEqual(floor.beats(place), 1)
        self.assertEqual([floor.kind(place) for place in floor.places()], ["ew", "x", "x", "Es"])


class TestOnesOwn(unittest.TestCase):
    def told(self, floor):
        alls = floor.places()
        asks = (floor.beats, floor.knocked, floor.stopped, floor.knockers, floor.stoppers)
        return (floor.wide(), floor.high(), floor.stones(), alls, [ask(place) for ask in asks for place in alls])

    def test_what_is_handed_in_is_not_kept_and_stays(self):
        stones = {(0, 0): ("ew", 1), (1, 0): ("x", 2)}
        before = dict(stones)
        floor = Floor(3, 1, stones)
        self.assertEqual(stones, before)
        told = self.told(floor)
        stones[2, 0] = ("ew", 3)
        stones[0, 0] = ("nesw", 9)
        del stones[1, 0]
        self.assertEqual(self.told(floor), told)
        self.assertEqual(floor.stones(), before)
        self.assertRaises(NoPlace, floor.beats, (2, 0, 0))

    def test_what_is_told_is_the_askers_own(self):
        floor = Floor(3, 2, {(0, 0): ("ew", 1), (1, 0): ("x", 2), (1, 1): ("ns", 2), (2, 0): ("Sw", 4)})
        told = self.told(floor)
        floor.stones().clear()
        floor.stones()[0, 1] = ("ew", 5)
        floor.places().clear()
        for place in floor.places():
            for ask in (floor.knocked, floor.stopped, floor.knockers, floor.stoppers):
                ask(place).append((9, 9, 9))
                ask(place).clear()
        self.assertEqual(self.told(floor), told)

    def test_two_floors_of_one_dict(self):
        stones = {(0, 0): ("ew", 1), (1, 0): ("ew", 2)}
        one = Floor(2, 1, stones)
        stones[0, 0] = ("ns", 1)
        other = Floor(2, 1, stones)
        one.stones()[1, 0] = ("ns", 1)
        self.assertEqual(one.knocked((0, 0, 0)), [(1, 0, 0)])
        self.assertEqual(other.knocked((0, 0, 0)), [])
        self.assertEqual(one.stones(), {(0, 0): ("ew", 1), (1, 0): ("ew", 2)})
        self.assertEqual(other.stones(), {(0, 0): ("ns", 1), (1, 0): ("ew", 2)})

    def test_each_method_stands_in_the_class_itself(self):
        listed = ["wide", "high", "stones", "places", "beats", "knocked", "stopped", "knockers", "stoppers"]
        for name in listed:
            self.assertIn(name, vars(Floor))


if __name__ == "__main__":
    unittest.main()
