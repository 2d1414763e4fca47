import copy
import itertools
import random
import unittest

from fallstones.beats import net_beats
from fallstones.errors import NoNet, NoNumber, TooMany
from fallstones.floors import Floor
from fallstones.floortexts import floor_text, read_floor
from fallstones.laid import laid
from fallstones.nets import ways_needed
from fallstones.runs import run
from tests import netreference, reference
from tests.netreference import pushes_by

LARGE = 10 ** 30 - 1
TWO = [("in", 0), ("in", 1)]


def random_laid_net(chance, most=16, sources=7, most_late=9000):
    """A net that can be laid, its ins and go anywhere among its nodes."""
    starts = chance.sample([("go",)] + [("in", k) for k in range(6)], chance.randint(1, sources))
    waiting = [None] * chance.randint(0, most) + starts[1:]
    chance.shuffle(waiting)
    net = starts[:1]
    for node in waiting:
        word = chance.choice(("or", "both", "unless", "late"))
        i, j = chance.randrange(len(net)), chance.randrange(len(net))
        made = ("late", i, chance.choice((0, 1, 2, 5, most_late))) if word == "late" else (word, i, j)
        net.append(made if node is None else node)
    return net


def random_outs(chance, net):
    return [chance.randrange(len(net)) for _ in range(chance.randint(1, 3))]


class LaidCase(unittest.TestCase):
    def told(self, net, outs):
        """The laid net, of which all that is told of its form holds."""
        told = laid(net, outs)
        self.assertIs(type(told), tuple)
        floor, ins, goes, ends = told
        self.assertIsInstance(floor, Floor)
        places = floor.places()
        self.assertIs(type(ins), dict)
        self.assertEqual(sorted(ins), sorted(node[1] for node in net if node[0] == "in"))
        self.assertIs(type(goes), list)
        self.assertEqual(len(goes), sum(node == ("go",) for node in net))
        self.assertIs(type(ends), list)
        self.assertEqual(len(ends), len(outs))
        for end in ends:
            self.assertIs(type(end), tuple)
            self.assertIn(end[0], places)
            self.assertIs(type(end[1]), int)
        starts = list(ins.values()) + goes
        self.assertEqual(len(set(starts)), len(starts))
        for place in starts:
            self.assertIn(place, places)
        return told

    def assert_runs(self, net, outs, many, told=None):
        """Each run by some arrivals, a list of lists, is as the net tells."""
        floor, ins, goes, ends = told or self.told(net, outs)
        for arrivals in many:
            falls = run(floor, pushes_by(ins, goes, arrivals))[0]
            beats = net_beats(net, arrivals)
            for out, (place, more) in zip(outs, ends):
                beat = None if beats[out] is None else beats[out] + more
                self.assertEqual(falls.get(place), beat, (net, out, arrivals))

    def assert_choices(self, net, outs, things):
        self.assert_runs(net, outs, [list(row) for row in itertools.product(things, repeat=ways_needed(net))])


class TestEachSort(LaidCase):
    def test_two_parts(self):
        for word in ("or", "both", "unless"):
            for parts in ((0, 1), (1, 0), (0, 0), (1, 1)):
                net = TWO + [(word, *parts)]
                self.assert_choices(net, [2], [None, 0, 1, 2, 3, 9, LARGE, LARGE - 1])

    def test_late(self):
        for d in (0, 1, 2, 8999, 9000):
            self.assert_choices([("in", 0), ("late", 0, d)], [1, 0], [None, 0, 1, 5, LARGE])

    def test_in_as_out(self):
        for k in range(6):
            net = [("in", k)]
            self.assert_runs(net, [0], [[0] * 6, [None] * 6, [7] * 6, [LARGE] * 6])
        self.assert_choices(TWO + [("or", 0, 1)], [0, 1, 0], [None, 0, 4])

    def test_go(self):
        self.assert_runs([("go",)], [0], [[None], [5]])
        self.assert_runs([("go",)], [0, 0, 0], [[None]])
        net = [("in", 0), ("go",), ("unless", 1, 0), ("unless", 0, 1), ("both", 0, 1), ("or", 0, 1), ("late", 1, 3)]
        for outs in ([1, 2, 3], [4, 5, 6], [1, 1]):
            self.assert_choices(net, outs, [None, 0, 1, 2, 50, LARGE])
        floor, ins, goes, ends = laid([("in", 2)], [0])
        self.assertEqual((goes, list(ins)), ([], [2]))

    def test_an_in_that_no_node_uses(self):
        net = [("in", 5), ("in", 0), ("in", 3), ("late", 1, 2)]
        self.assert_choices(net, [3, 0, 2], [None, 4])

    def test_part_of_many(self):
        net = TWO + [("or", 0, 1)] + [("unless", 2, 0), ("unless", 2, 1), ("both", 2, 2), ("or", 2, 2), ("unless", 2, 2)]
        for out in range(len(net)):
            self.assert_choices(net, [out], [None, 0, 1, 2])

    def test_which_part_is_which(self):
        net = TWO + [("late", 0, 3), ("unless", 1, 2), ("unless", 2, 1)]
        self.assert_choices(net, [3, 4], [None, 0, 1, 2, 3, 4, 5, 6])


class TestWholeNets(LaidCase):
    def test_random_nets(self):
        chance = random.Random(1)
        for _ in range(60):
            net = random_laid_net(chance)
            many = [netreference.random_arrivals(chance, 6, last) for last in (1, 3, 20, 9010) for _ in range(2)]
            self.assert_runs(net, random_outs(chance, net), many)

    def test_each_node(self):
        chance = random.Random(2)
        for _ in range(8):
            net = random_laid_net(chance, most_late=3)
            many = [netreference.random_arrivals(chance, 6, 4) for _ in range(6)]
            for out in range(0, len(net), 3):
                outs = list(range(out, min(out + 3, len(net))))
                self.assert_runs(net, outs, many)

    def test_small_nets_by_all_arrivals(self):
        chance = random.Random(3)
        for _ in range(25):
            net = random_laid_net(chance, 6, 3, 2)
            net = [("in", 0)] + [node if node[0] != "in" else ("late", 0, node[1]) for node in net[1:]]
            self.assert_choices(net, random_outs(chance, net), [None, 0, 1, 2, 3])
        for _ in range(10):
            net = TWO + [("in", 2)]
            for _ in range(6):
                net.append((chance.choice(("or", "both", "unless")), chance.randrange(len(net)), chance.randrange(len(net))))
            self.assert_choices(net, [6, 7, 8], [None, 0, 1, 2])

    def test_thirty_figures_one_beat_apart(self):
        chance = random.Random(4)
        for _ in range(15):
            net = random_laid_net(chance, most_late=4)
            start = LARGE - 10
            many = [[None if beat is None else start + beat for beat in netreference.random_arrivals(chance, 6, 3)] for _ in range(5)]
            many += [[start] * 6, [start + k for k in range(6)], [start - k for k in range(6)], [0, LARGE, 0, LARGE, 1, None]]
            self.assert_runs(net, random_outs(chance, net), many)

    def test_all_choices_of_none(self):
        chance = random.Random(5)
        for _ in range(3):
            net = [("in", k) for k in range(6)] + [("go",)]
            for _ in range(16):
                word = chance.choice(("or", "both", "unless"))
                net.append((word, chance.randrange(len(net)), chance.randrange(len(net))))
            many = [[3 if choice // 2 ** k % 2 else None for k in range(6)] for choice in range(64)]
            self.assert_runs(net, [22, 21, 20], many)


class TestSixteen(LaidCase):
    SOURCES = [("in", k) for k in range(6)] + [("go",)]

    def assert_sixteen(self, nodes):
        net = self.SOURCES + nodes
        self.assertEqual(len(nodes), 16)
        chance = random.Random(len(str(nodes)))
        many = [netreference.random_arrivals(chance, 6, last) for last in (0, 2, 5, 20000) for _ in range(2)]
        self.assert_runs(net, [22, 14, 7], many + [[0] * 6, [None] * 6, [LARGE] * 6])

    def test_all_over_the_same_ones(self):
        for word in ("or", "both", "unless"):
            self.assert_sixteen([(word, 0, 5) for _ in range(16)])
            self.assert_sixteen([(word, 5, 0) for _ in range(16)])
            self.assert_sixteen([(word, 3, 3) for _ in range(16)])

    def test_chains(self):
        for word in ("or", "both", "unless"):
            self.assert_sixteen([(word, at, at + 1) for at in range(5, 21)])
            self.assert_sixteen([(word, at + 1, at) for at in range(5, 21)])
            self.assert_sixteen([(word, at, 0) for at in range(6, 22)])
            self.assert_sixteen([(word, 0, at) for at in range(6, 22)])

    def test_lates(self):
        self.assert_sixteen([("late", at, 9000) for at in range(6, 22)])
        self.assert_sixteen([("late", at, 0) for at in range(6, 22)])
        self.assert_sixteen([("late", 2, 9000) for _ in range(16)])
        # All that came late meets what came straight.
        chain = [("late", at, 9000) for at in range(6, 21)]
        for word in ("or", "both", "unless"):
            self.assert_sixteen(chain + [(word, 21, 1)])
            self.assert_sixteen(chain + [(word, 1, 21)])

    def test_one_node_by_many(self):
        self.assert_sixteen([("or", 0, 1)] + [("both", 7, at % 8) for at in range(15)])
        self.assert_sixteen([("unless", 6, 0)] + [("unless", at % 7, 7) for at in range(15)])

    def test_sources_behind(self):
        net = [("in", 4)] + [("late", 0, 1)] * 8 + [("go",), ("in", 0)] + [("unless", 9, 10)] * 8 + [("in", 1)]
        self.assert_runs(net, [19, 18, 8], [[a, b, None, None, c] for a in (None, 0, 1) for b in (None, 3) for c in (None, 2)])


class TestRefused(unittest.TestCase):
    def test_no_net_first(self):
        for net in netreference.NO_NETS + reference.OTHER_THINGS:
            with self.subTest(net=net):
                for outs in ([0], [], None, [True]):
                    self.assertRaises(NoNet, laid, net, outs)

    def test_too_many(self):
        wrong = [
            [("in", 0)] + [("or", 0, 0)] * 17, [("in", 0)] + [("late", at, 0) for at in range(17)], [("in", 3), ("in", 3)],
            [("in", 0), ("in", 1), ("or", 0, 1), ("in", 0)], [("go",), ("go",)], [("go",), ("in", 0), ("both", 0, 1), ("go",)],
            [("in", 0), ("late", 0, 9001)], [("in", 0), ("late", 0, 5), ("late", 1, LARGE)],
            [("in", 0)] + [("late", at, 1) for at in range(999)], [("in", k % 6) for k in range(7)],
        ]
        for net in wrong:
            with self.subTest(net=net):
                for outs in ([0], [1], [], None, [True], [9999], [0, 0, 0, 0]):
                    self.assertRaises(TooMany, laid, net, outs)

    def test_just_not_too_many(self):
        for net in ([("in", 0)] + [("or", 0, 0)] * 16, [("in", k) for k in range(6)], [("go",), ("in", 0)],
                    [("in", 0), ("late", 0, 9000)]):
            self.assertEqual(len(laid(net, [0])), 4)

    def test_no_number(self):
        net = [("in", 0), ("go",), ("or", 0, 1)]
        wrong = [
            [], [0, 0, 0, 0], [3], [-1], [0, 3], [0, -1, 0], [True], [False], [0, True], ["0"], [""], [None], [0, None], [[]],
            [()], [(0,)], (0,), (0, 1), {0: 0}, {0}, "0", "", None, True, 0, 2, [10 ** 30], [[0]], [b"0"],
        ]
        for outs in wrong + [thing for thing in reference.OTHER_THINGS if thing not in ([0, 0], [0, 0, 0])]:
            with self.subTest(outs=outs):
                self.assertRaises(NoNumber, laid, net, outs)


class TestText(LaidCase):
    def test_read_again(self):
        chance = random.Random(6)
        for _ in range(15):
            net = random_laid_net(chance)
            outs = random_outs(chance, net)
            floor, ins, goes, ends = self.told(net, outs)
            text = floor_text(floor)
            again = read_floor(text)
            self.assertEqual((again.wide(), again.high(), again.stones()), (floor.wide(), floor.high(), floor.stones()))
            self.assertEqual(floor_text(again), text)
            many = [netreference.random_arrivals(chance, 6, 5) for _ in range(3)]
            self.assert_runs(net, outs, many, (again, ins, goes, ends))
            for arrivals in many:
                pushes = pushes_by(ins, goes, arrivals)
                self.assertEqual(run(again, pushes), run(floor, pushes))


class TestOnesOwn(unittest.TestCase):
    def test_ones_own(self):
        net, outs = [("in", 1), ("go",), ("unless", 1, 0), ("late", 2, 7)], [3, 0]
        before = copy.deepcopy((net, outs))
        floor, ins, goes, ends = laid(net, outs)
        expected = (floor_text(floor), dict(ins), list(goes), list(ends))
        floor.stones().clear()
        for part in (ins, goes, ends):
            part.clear()
        floor, ins, goes, ends = laid(net, outs)
        self.assertEqual((floor_text(floor), ins, goes, ends), expected)
        self.assertEqual((net, outs), before)


if __name__ == "__main__":
    unittest.main()
