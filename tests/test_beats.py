import copy
import itertools
import random
import unittest

from fallstones.beats import net_beats
from fallstones.errors import NoArrivals, NoNet
from tests import netreference, reference

NO_GO = ("in", "or", "both", "unless", "late")


def two(word):
    """What a node of two parts tells, as a function of what arrives at them."""
    net = [("in", 0), ("in", 1), (word, 0, 1)]
    return lambda one, other: net_beats(net, [one, other])[2]


class TestEachSort(unittest.TestCase):
    def test_in(self):
        net = [("in", 2), ("in", 0), ("in", 2), ("in", 1)]
        self.assertEqual(net_beats(net, [7, None, 3]), [3, 7, 3, None])
        self.assertEqual(net_beats(net, [0, 10 ** 29, None, 5, 5, 5]), [None, 0, None, 10 ** 29])

    def test_go(self):
        self.assertEqual(net_beats([("go",), ("go",)], [None]), [0, 0])
        self.assertEqual(net_beats([("go",)], [5]), [0])

    def test_late(self):
        net = [("in", 0), ("late", 0, 0), ("late", 0, 5), ("late", 2, 10 ** 29)]
        self.assertEqual(net_beats(net, [3]), [3, 3, 8, 8 + 10 ** 29])
        self.assertEqual(net_beats(net, [None]), [None] * 4)

    def test_or(self):
        tell = two("or")
        self.assertEqual([tell(3, 5), tell(5, 3), tell(4, 4), tell(0, 0)], [3, 3, 4, 0])
        self.assertEqual([tell(3, None), tell(None, 3), tell(0, None), tell(None, 0)], [3, 3, 0, 0])
        self.assertIsNone(tell(None, None))

    def test_both(self):
        tell = two("both")
        self.assertEqual([tell(3, 5), tell(5, 3), tell(4, 4), tell(0, 0)], [5, 5, 4, 0])
        self.assertEqual([tell(3, None), tell(None, 3), tell(0, None), tell(None, 0), tell(None, None)], [None] * 5)

    def test_unless(self):
        tell = two("unless")
        self.assertEqual([tell(3, 5), tell(0, 1), tell(3, None), tell(0, None)], [3, 0, 3, 0])
        self.assertEqual([tell(5, 3), tell(4, 4), tell(0, 0), tell(None, 3), tell(None, 0), tell(None, None)], [None] * 6)

    def test_parts_the_same(self):
        net = [("in", 0), ("or", 0, 0), ("both", 0, 0), ("unless", 0, 0)]
        self.assertEqual(net_beats(net, [4]), [4, 4, 4, None])
        self.assertEqual(net_beats(net, [None]), [None] * 4)

    def test_which_part_is_which(self):
        net = [("in", 0), ("in", 1), ("unless", 1, 0), ("unless", 0, 1)]
        self.assertEqual(net_beats(net, [4, 6]), [4, 6, None, 4])
        self.assertEqual(net_beats(net, [6, 4]), [6, 4, 4, None])


class TestWholeNets(unittest.TestCase):
    def test_more_arrivals_than_ins(self):
        self.assertEqual(net_beats([("in", 0)], [1, 2, 3, None, 4, 5]), [1])

    def test_a_chain_of_a_thousand(self):
        net = [("in", 0)] + [("late", at, at) for at in range(999)]
        self.assertEqual(net_beats(net, [7])[-1], 7 + sum(range(999)))
        for word, expected in (("or", 7), ("both", 7), ("unless", None)):
            self.assertEqual(net_beats([("in", 0)] + [(word, at, at) for at in range(999)], [7])[-1], expected)
        chain = [("in", 0), ("in", 1)] + [("both", at, at + 1) for at in range(998)]
        self.assertEqual(net_beats(chain, [10 ** 29, 3])[-1], 10 ** 29)

    def test_thirty_figures(self):
        large = 10 ** 30 - 1
        net = [("in", 0), ("in", 1), ("unless", 0, 1), ("late", 2, large), ("both", 0, 1), ("or", 0, 1)]
        self.assertEqual(net_beats(net, [large - 1, large]), [large - 1, large, large - 1, 2 * large - 1, large, large - 1])

    def test_against_reference(self):
        chance = random.Random(1)
        for _ in range(600):
            net, arrivals = netreference.random_net(chance, 12), netreference.random_arrivals(chance)
            told = net_beats(net, arrivals)
            self.assertIsInstance(told, list)
            self.assertEqual(told, netreference.beats(net, arrivals))


class TestWhatFollows(unittest.TestCase):
    def test_later_arrivals_make_later_beats(self):
        chance = random.Random(2)
        for _ in range(300):
            net, arrivals = netreference.random_net(chance, 12, words=NO_GO), netreference.random_arrivals(chance)
            told = net_beats(net, arrivals)
            for more in (1, 2, 50, 10 ** 20):
                moved = [None if beat is None else beat + more for beat in arrivals]
                self.assertEqual(net_beats(net, moved), [None if beat is None else beat + more for beat in told])

    def test_nothing_is_foreseen(self):
        chance = random.Random(3)
        changed = 0
        for _ in range(80):
            net, arrivals = netreference.random_net(chance, 10), netreference.random_arrivals(chance, 3, 3)
            told = net_beats(net, arrivals)
            for others in itertools.product([0, 1, 2, 3, 4, 5, 9, None], repeat=3):
                again = net_beats(net, list(others))
                for at, beat in enumerate(told):
                    if beat is None:
                        continue
                    late = [k for k in range(3) if arrivals[k] is None or arrivals[k] > beat]
                    same = all(
                        (others[k] is None or others[k] > beat) if k in late else others[k] == arrivals[k] for k in range(3)
                    )
                    if same:
                        self.assertEqual(again[at], beat)
                        changed += list(others) != arrivals
        self.assertGreater(changed, 500)


class TestRefused(unittest.TestCase):
    def test_no_net_ahead_of_no_arrivals(self):
        for net in netreference.NO_NETS + reference.OTHER_THINGS:
            with self.subTest(net=net):
                for arrivals in ([0], [], None, [True], [0] * 7):
                    self.assertRaises(NoNet, net_beats, net, arrivals)

    def test_no_arrivals(self):
        wrong = [[], [0], [0] * 7, [0, -1], [-1, 0], [True, 0], [0, False], ["0", 0], [0, []], (0, 0), {0: 0, 1: 0}, "00", None]
        wrong += [thing for thing in reference.OTHER_THINGS if thing not in ([0, 0], [0, 0, 0])]
        for arrivals in wrong:
            with self.subTest(arrivals=arrivals):
                self.assertRaises(NoArrivals, net_beats, [("in", 1), ("late", 0, 1)], arrivals)


class TestOnesOwn(unittest.TestCase):
    def test_ones_own(self):
        net, arrivals = [("in", 0), ("in", 1), ("or", 0, 1)], [4, None]
        before = copy.deepcopy((net, arrivals))
        told = net_beats(net, arrivals)
        told.clear()
        net_beats(net, arrivals)[0] = 99
        self.assertEqual(net_beats(net, arrivals), [4, None, 4])
        self.assertEqual((net, arrivals), before)


if __name__ == "__main__":
    unittest.main()
