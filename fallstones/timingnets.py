"""Nets for lawful timings."""

from fallstones.errors import CantBe
from fallstones.netmakers import NetMaker
from fallstones.timings import normal_rows, seen_until, unlawful


def ins_of_ways(maker, n):
    """The numbers of the ins of n ways in."""
    return [maker.put(("in", k)) for k in range(n)]


def comes_later(maker, ins, k, t):
    """The number of a node that comes t beats behind the first arrival, if way in k hasn't come by then."""
    return maker.put(("unless", maker.late(maker.any_of(ins), t), ins[k]))


def comes_by(maker, ins, k, t):
    """The number of a node that comes t beats behind the first arrival, if way in k has come by then."""
    return maker.put(("unless", maker.late(maker.any_of(ins), t), comes_later(maker, ins, k, t)))


def comes_at(maker, ins, k, t):
    """The number of a node that comes t beats behind the first arrival, if way in k comes just then."""
    if t == 0:
        return comes_by(maker, ins, k, 0)
    return maker.all_of([comes_by(maker, ins, k, t), maker.late(comes_later(maker, ins, k, t - 1), 1)])


def seen_node(maker, ins, seen, t):
    """The number of a node that comes t beats behind the first arrival, if what has come by then is as told."""
    return maker.all_of([
        comes_later(maker, ins, k, t) if thing is None else maker.late(comes_at(maker, ins, k, thing), t - thing)
        for k, thing in enumerate(seen)
    ])


def answered(n, m, timing):
    """The list of tuples (seen, t), each once: what has come by t where the answer is t."""
    rows = [row for row in normal_rows(n, m) if timing[row] is not None]
    found = {(seen_until(row, timing[row]), timing[row]): True for row in rows}
    return list(found)


def timing_net(n, m, timing):
    """A net whose last node answers as a lawful timing does, or None where all answers are None."""
    if unlawful(n, m, timing) is not None:
        raise CantBe("a net does not foresee what comes later")
    maker = NetMaker()
    ins = ins_of_ways(maker, n)
    # A lawful timing's answer is settled by what has come by then, so no two of these nodes come in one run.
    last = maker.any_of([seen_node(maker, ins, seen, t) for seen, t in answered(n, m, timing)])
    return None if last is None else maker.made[:last + 1]
