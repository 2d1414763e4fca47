"""Timings told a second time, and such as are lawful, of many sorts."""

import itertools

from tests import netreference


def order(row):
    """Sorts rows by the first thing in which they differ, None behind all numbers."""
    return [float("inf") if thing is None else thing for thing in row]


def normal_rows(n, m):
    rows = itertools.product([None, *range(m + 1)], repeat=n)
    return sorted((row for row in rows if 0 in row), key=order)


def alike_until(row, other, t):
    early = [(k, thing) for k, thing in enumerate(row) if thing is not None and thing <= t]
    return early == [(k, thing) for k, thing in enumerate(other) if thing is not None and thing <= t]


def unlawful(n, m, timing):
    rows = normal_rows(n, m)
    pairs = [
        (row, other) for row in rows for other in rows
        if timing[row] is not None and alike_until(row, other, timing[row]) and timing[other] != timing[row]
    ]
    return min(pairs, key=lambda pair: [order(row) for row in pair], default=None)


def random_timing(chance, n, m):
    return {row: chance.choice([None, *range(m + 1)]) for row in normal_rows(n, m)}


def drawn(chance, n, m, often=0.4):
    """A lawful timing: beat by beat it is drawn of what is known then whether the answer comes."""
    timing = {row: None for row in normal_rows(n, m)}
    for t in range(m + 1):
        answered = {}
        for row in timing:
            if timing[row] is None:
                known = tuple(thing if thing is not None and thing <= t else None for thing in row)
                if answered.setdefault(known, chance.random() < often):
                    timing[row] = t
    return timing


def of_net(net, n, m):
    """What a net's last node answers to each row, None in the place of what is above m; it is lawful."""
    told = {row: netreference.beats(net, list(row))[-1] for row in normal_rows(n, m)}
    return {row: None if beat is None or beat > m else beat for row, beat in told.items()}


def lawful_timings(chance, n, m, many=4):
    """Lawful timings of many sorts."""
    rows = normal_rows(n, m)
    told = [{row: answer for row in rows} for answer in [None, *range(m + 1)]]
    told += [drawn(chance, n, m, often) for often in (0.1, 0.3, 0.5, 0.8) for _ in range(many)]
    words = ("in", "in", "or", "both", "unless", "late")
    for _ in range(4 * many):
        told.append(of_net(netreference.random_net(chance, 9, n, words, 2), n, m))
    for word in ("or", "both", "unless"):
        for i in range(n):
            for j in range(n):
                told.append(of_net([("in", i), ("in", j), (word, 0, 1)], n, m))
    return told
