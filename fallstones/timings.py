"""Normal rows of arrivals, timings that answer them, and which timings are lawful."""

from fallstones.errors import NoNumber, NoTiming
from fallstones.wholes import is_whole_within

MOST_WAYS = 3
MOST_SPAN = 3


def refuse_no_span(n, m):
    """Refuse a number of ways in and a span that are none."""
    if not is_whole_within(n, 1, MOST_WAYS):
        raise NoNumber("normal rows have from 1 to 3 ways in")
    if not is_whole_within(m, 0, MOST_SPAN):
        raise NoNumber("a span is from 0 to 3")


def is_thing(thing, m):
    """Whether a thing may stand in a normal row or be an answer: a whole number from 0 to m, or None."""
    return thing is None or is_whole_within(thing, 0, m)


def normal_rows(n, m):
    """The list of all normal rows of n ways in and a span m, in order."""
    refuse_no_span(n, m)
    things = list(range(m + 1)) + [None]
    rows = [()]
    for way in range(n):
        rows = [(*row, thing) for row in rows for thing in things]
    return [row for row in rows if 0 in row]


def is_normal_row(n, m, thing):
    """Whether a thing is a normal row of n ways in and a span m."""
    if not isinstance(thing, tuple) or len(thing) != n:
        return False
    return all([is_thing(part, m) for part in thing]) and 0 in thing


def refuse_no_timing(n, m, timing):
    """Refuse a number of ways in and a span that are none, and what is no timing for them."""
    rows = normal_rows(n, m)
    if not isinstance(timing, dict) or len(timing) != len(rows):
        raise NoTiming("a timing is a dict from all normal rows")
    for row in timing:
        if not is_normal_row(n, m, row):
            raise NoTiming("a timing has normal rows only")
        if not is_thing(timing[row], m):
            raise NoTiming("a timing's answers are whole numbers up to its span, or None")


def seen_until(row, t):
    """A row as it is known at a beat: what comes later is None."""
    return tuple([None if thing is None or thing > t else thing for thing in row])


def is_foreseen(row, other, timing):
    """Whether a row's answer isn't another row's, though both are alike until that answer."""
    t = timing[row]
    return t is not None and seen_until(row, t) == seen_until(other, t) and timing[other] != t


def unlawful(n, m, timing):
    """The first pair (row, other) for which a timing isn't lawful, or None where it is."""
    refuse_no_timing(n, m, timing)
    rows = normal_rows(n, m)
    for row in rows:
        for other in rows:
            if is_foreseen(row, other, timing):
                return (row, other)
    return None
