"""What is promised over all modules together."""

import itertools
import random
import unittest

from fallstones.beats import net_beats
from fallstones.blocks import net_for
from fallstones.desk import Desk
from fallstones.errors import TooMany
from fallstones.floors import Floor
from fallstones.floortexts import floor_text, read_floor
from fallstones.laid import laid
from fallstones.light import far, feeders
from fallstones.moves import beside, mirrored, mirrored_place, turned, turned_place
from fallstones.parts import cut
from fallstones.races import races
from fallstones.rising import falls_on
from fallstones.runs import keeps_rules, run
from fallstones.tables import tables_of, unlesses
from fallstones.timers import timer
from fallstones.times import long_way, put_in, right_times, times_by
from fallstones.timetables import timetable
from fallstones.timingnets import timing_net
from fallstones.ways import answers, first_race, pushes_in
from tests import netreference, reference, tablereference, timingreference
from tests.netreference import pushes_by

LARGE = 10 ** 29


def laid_or_none(net, outs):
    """The laid net, or None where it has too many nodes for that."""
    try:
        return laid(net, outs)
    except TooMany:
        return None


def random_floor(chance, kinds=reference.KINDS, wide=4, high=4):
    stones = reference.random_stones(chance, wide, high, kinds)
    return Floor(wide, high, stones), reference.random_pushes(chance, stones)


class TestTablesLaid(unittest.TestCase):
    def assert_laid(self, n, tables):
        """Whether the tables could be laid; if so each out's place falls as its table and its time tell."""
        net, outs, row = net_for(n, tables, True)
        times, lates = right_times(net)
        self.assertEqual(times_by(net, lates), times)
        made, numbers = put_in(net, lates)
        told = [out for out in outs if out is not None]
        if not told:
            return False
        whole = laid_or_none(made, [numbers[out] for out in told])
        if whole is None:
            return False
        floor, ins, goes, ends = whole
        for choice in range(2 ** n):
            arrivals = [0 if choice // 2 ** k % 2 else None for k in range(n)]
            falls, stopped = run(floor, pushes_by(ins, goes, arrivals))
            for table, out, (place, more) in zip([table for table in tables if table], told, ends):
                expected = times[out] + more if tablereference.is_so(table, choice) else None
                self.assertEqual(falls.get(place), expected, (n, tables, choice))
        if ins:
            self.assert_ways(floor, ins, goes, ends, [tables_of(net, n)[out] for out in told], [times[out] for out in told])
        return True

    def assert_ways(self, floor, ins, goes, ends, tables, times):
        """The same, by what the floor answers to each choice of its ways in."""
        ways = ([(place, 0) for place in goes], [(ins[k], 0) for k in sorted(ins)])
        for choice, told in enumerate(answers(floor, ways, [place for place, more in ends])):
            coming = [k for at, k in enumerate(sorted(ins)) if choice // 2 ** at % 2]
            whole = sum(2 ** k for k in coming)
            expected = [
                time + more if tablereference.is_so(table, whole) else None
                for table, time, (place, more) in zip(tables, times, ends)
            ]
            self.assertEqual(list(told), expected)

    def test_all_of_one_and_two_ways(self):
        for n in (1, 2):
            for table in range(1, 2 ** 2 ** n):
                self.assertIs(self.assert_laid(n, [table]), True, (n, table))

    def test_of_three_and_four_ways(self):
        chance = random.Random(1)
        done = 0
        for _ in range(60):
            done += self.assert_laid(3, [chance.randrange(256)])
        for _ in range(40):
            done += self.assert_laid(2, [chance.randrange(16) for _ in range(chance.randint(2, 3))])
        for table in (0b1000000000000000, 2 ** 16 - 2, 2 ** 15 - 2, 1, 2 ** 16 - 1, 2 ** 15 - 1):
            done += self.assert_laid(4, [table])
        self.assertGreater(done, 60)

    def test_blocks_on_the_floor(self):
        # A laid net has as many blocks as the net has unlesses, and as the falls of a row ask for.
        for table in range(1, 16):
            net, outs, row = net_for(2, [table], True)
            floor = laid(net, outs)[0]
            blocks = [kind for kind, beats in floor.stones().values() if kind in reference.BLOCKS]
            falls = falls_on(2, [table], row)
            self.assertEqual(len(blocks), unlesses(net))
            self.assertTrue(2 ** len(blocks) > falls and 2 ** len(blocks) <= 2 * max(falls, 1))


class TestTimingsLaid(unittest.TestCase):
    def test_timings_laid(self):
        chance = random.Random(2)
        done = 0
        for n, m in ((1, 0), (1, 3), (2, 0), (2, 1), (2, 2), (3, 0)):
            for timing in timingreference.lawful_timings(chance, n, m, 3):
                net = timing_net(n, m, timing)
                whole = None if net is None else laid_or_none(net, [len(net) - 1])
                if whole is None:
                    continue
                done += 1
                floor, ins, goes, [(place, more)] = whole
                self.assertEqual(goes, [])
                for row in timing:
                    for start in (0, 3, LARGE):
                        arrivals = [None if beat is None else start + beat for beat in row]
                        falls = run(floor, pushes_by(ins, goes, arrivals))[0]
                        expected = None if timing[row] is None else start + timing[row] + more
                        self.assertEqual(falls.get(place), expected)
        self.assertGreater(done, 40)


class TestRuns(unittest.TestCase):
    def test_rules_are_kept_and_nothing_else_keeps_them(self):
        chance = random.Random(3)
        for _ in range(40):
            floor, pushes = random_floor(chance)
            falls, stopped = run(floor, pushes)
            self.assertIs(keeps_rules(floor, pushes, falls, stopped), True)
            for told, other in ((falls, stopped), (stopped, falls)):
                for place in list(told):
                    changed = dict(told)
                    changed[place] += 1
                    less = {key: beat for key, beat in told.items() if key != place}
                    for wrong in (changed, less):
                        pair = (wrong, other) if told is falls else (other, wrong)
                        self.assertIs(keeps_rules(floor, pushes, *pair), False)

    def test_all_later(self):
        chance = random.Random(4)
        for _ in range(40):
            floor, pushes = random_floor(chance)
            falls, stopped = run(floor, pushes)
            for more in (1, 7, LARGE):
                told = run(floor, [(place, beat + more) for place, beat in pushes])
                self.assertEqual(told[0], {place: beat + more for place, beat in falls.items()})
                self.assertEqual(told[1], {place: beat + more for place, beat in stopped.items()})

    def test_moved_floors_fall_likewise(self):
        chance = random.Random(5)
        for _ in range(40):
            floor, pushes = random_floor(chance, wide=4, high=3)
            told = run(floor, pushes)
            for move, place_of in ((turned, turned_place), (mirrored, mirrored_place)):
                moved = run(move(floor), [(place_of(floor, place), beat) for place, beat in pushes])
                for one, other in zip(told, moved):
                    self.assertEqual({place_of(floor, place): beat for place, beat in one.items()}, other)
            self.assertEqual(run(read_floor(floor_text(floor)), pushes), told)

    def test_light_floors(self):
        chance = random.Random(6)
        for _ in range(25):
            floor, pushes = random_floor(chance, reference.LIGHT_KINDS)
            falls = run(floor, pushes)[0]
            for place in floor.places():
                near = feeders(floor, place)
                beats = [beat + far(floor, one, place) for one, beat in pushes if one in near]
                self.assertEqual(falls.get(place), min(beats, default=None))

    def test_timetables(self):
        chance = random.Random(7)
        found = 0
        for _ in range(400):
            floor, pushes = random_floor(chance, wide=3, high=3)
            unlike = list({place: (place, beat) for place, beat in pushes}.values())
            if not unlike:
                continue
            ways = ([], unlike)
            told = timetable(floor, ways)
            if told is not None:
                found += 1
                self.assertIsNone(first_race(floor, ways))
                for choice in range(2 ** len(unlike)):
                    falls = run(floor, pushes_in(floor, ways, choice))[0]
                    self.assertTrue(all(told[place] == beat for place, beat in falls.items()))
        self.assertGreater(found, 80)

    def test_beside_and_cut(self):
        chance = random.Random(8)
        for _ in range(30):
            one, pushes = random_floor(chance, wide=3, high=3)
            bare = Floor(1, 3, {})
            other = random_floor(chance, wide=2, high=2)[0]
            whole = beside(beside(one, bare), other)
            self.assertEqual(run(whole, pushes), run(one, pushes))
            west, east, crossing = cut(whole, 4)
            self.assertEqual((floor_text(west), crossing), (floor_text(beside(one, bare)), []))
            self.assertEqual(east.stones(), other.stones())


class TestNets(unittest.TestCase):
    def test_a_laid_net_is_moved_later_as_its_net(self):
        chance = random.Random(9)
        for _ in range(12):
            net = [("in", 0), ("in", 1), ("in", 2)] + [
                (chance.choice(("or", "both", "unless")), chance.randrange(3 + at), chance.randrange(3 + at)) for at in range(8)
            ]
            floor, ins, goes, ends = laid(net, [8, 9, 10])
            arrivals = netreference.random_arrivals(chance)
            beats = net_beats(net, arrivals)
            for more in (0, 1, LARGE):
                later = [None if beat is None else beat + more for beat in arrivals]
                falls = run(floor, pushes_by(ins, goes, later))[0]
                told = [falls.get(place) for place, extra in ends]
                expected = [None if beats[at] is None else beats[at] + more + end[1] for at, end in zip((8, 9, 10), ends)]
                self.assertEqual(told, expected)

    def test_races_where_an_unless_has_parts_at_one_beat(self):
        net = [("in", 0), ("in", 1), ("unless", 0, 1)]
        floor, ins, goes, [(place, more)] = laid(net, [2])
        for one, other in itertools.product([None, 0, 1, 2, LARGE], repeat=2):
            raced = races(floor, pushes_by(ins, goes, [one, other]))
            self.assertEqual(raced, [(one + more, place)] if one is not None and one == other else [])

    def test_a_laid_net_moved_and_written(self):
        net = [("in", 0), ("in", 1), ("unless", 0, 1), ("late", 2, 40), ("both", 3, 0), ("or", 4, 1)]
        floor, ins, goes, [(place, more)] = laid(net, [5])
        desk = Desk()
        desk.say("floor net " + floor_text(floor)[:-1].replace("\n", "/"))
        for arrivals in itertools.product([None, 0, 1, 5], repeat=2):
            beat = net_beats(net, list(arrivals))[5]
            pushes = pushes_by(ins, goes, arrivals)
            moved = [(turned_place(floor, start), beat) for start, beat in pushes]
            falls = run(turned(floor), moved)[0]
            expected = None if beat is None else beat + more
            self.assertEqual(falls.get(turned_place(floor, place)), expected)
            words = "".join(f" {x},{y},{line}@{beat}" for (x, y, line), beat in pushes)
            x, y, line = place
            self.assertEqual(desk.say(f"when net {x},{y},{line}{words}"), "never" if expected is None else str(expected))

    def test_long_ways_on_the_floor(self):
        # Where all comes, a net of lates and boths is as late as its long way is long.
        chance = random.Random(10)
        for _ in range(15):
            net = netreference.random_net(chance, 12, 3, ("in", "both", "late", "late"))
            sources = [("in", 0), ("in", 1), ("in", 2)]
            net = sources + [
                ("both", node[1], 0) if node[0] == "in" else (node[0], node[1] + 3, node[2] + 3 * (node[0] == "both"))
                for node in net
            ]
            out = len(net) - 1
            floor, ins, goes, [(place, more)] = laid(net, [out])
            falls = run(floor, pushes_by(ins, goes, [0, 0, 0]))[0]
            length = netreference.way_length(net, long_way(net, out))
            self.assertEqual(falls[place], length + more)
            self.assertEqual(right_times(net)[0][out], length)

    def test_a_timer_as_a_late(self):
        for k in (1, 500, 9000):
            clock, first, last = timer(k)
            floor, ins, goes, [(place, more)] = laid([("in", 0), ("late", 0, k)], [1])
            self.assertEqual(run(floor, [(ins[0], 0)])[0][place] - more, run(clock, [(first, 0)])[0][last])


if __name__ == "__main__":
    unittest.main()
