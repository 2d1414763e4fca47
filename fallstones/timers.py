"""Timers: the shortest rows of stones at whose end one falls a told number of beats behind the first."""

from fallstones.errors import NoNumber
from fallstones.floors import Floor
from fallstones.kinds import MOST_BEATS
from fallstones.wholes import is_whole_within

MOST_TIME = 500000


def delays(k):
    """As few beats of stones as can be that make k together."""
    many = (k + MOST_BEATS - 1) // MOST_BEATS
    return [MOST_BEATS] * (many - 1) + [k - MOST_BEATS * (many - 1)]


def timer(k):
    """A timer of k beats: a tuple (floor, first, last)."""
    if not is_whole_within(k, 1, MOST_TIME):
        raise NoNumber("a timer has from 1 to 500,000 beats")
    # The last stone's own beats have no part in when it falls.
    row = delays(k) + [1]
    floor = Floor(len(row), 1, {(x, 0): ("E", beats) for x, beats in enumerate(row)})
    return (floor, (0, 0, 0), (len(row) - 1, 0, 0))
