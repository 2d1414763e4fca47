"""Rising rows, and how often tables fall along them, told a second time: by going through all rows."""

import functools


def is_so(table, choice):
    return table // 2 ** choice % 2 == 1


def ins(n, choice):
    return {k for k in range(n) if choice // 2 ** k % 2 == 1}


@functools.lru_cache(maxsize=None)
def rising_rows(n):
    """All rising rows of n ways in, as tuples."""
    told = [(choice,) for choice in range(2 ** n)]
    for row in told:
        told.extend(row + (choice,) for choice in range(2 ** n) if ins(n, row[-1]) < ins(n, choice))
    return tuple(told)


def falls(tables, row):
    steps = zip(row, row[1:])
    return sum(any(is_so(table, one) and not is_so(table, other) for table in tables) for one, other in steps)


def most_falls(n, tables):
    return max(falls(tables, row) for row in rising_rows(n))


def random_tables(chance, n, most=3):
    return [chance.randrange(2 ** 2 ** n) for _ in range(chance.randint(1, most))]


def level_table(n, levels):
    """The table that is so in the choices that have just so many ins as one of the levels tells."""
    return sum(2 ** choice for choice in range(2 ** n) if len(ins(n, choice)) in levels)


# What are no tables of 2 ways in.
NO_TABLES = [
    [], [0, 0, 0, 0], [-1], [16], [0, 16], [0, 0, -1], [True], [False], [0, True], ["0"], [""], [None], [[]], [()], [{}],
    (0,), (0, 1), {0: 0}, {0}, "0", "", None, True, 0, 5, [10 ** 30], [[0]], [0, None], [b"0"],
]
# What are no ways in of tables.
NO_NUMBERS = [0, 5, 6, -1, 10 ** 30, True, False, "1", "", None, [1], (1,), {1: 1}, b"1", set(), len]
