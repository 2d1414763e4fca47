"""Races of blocks that are due and stopped at one beat, and runs in which some of them are let fall."""

from fallstones.pushes import refuse_no_pushes
from fallstones.runs import course


def races(floor, pushes):
    """The sorted list of the races in the run by pushes, tuples (beat, place)."""
    refuse_no_pushes(floor, pushes)
    return sorted(course(floor, pushes, [])[2])


def run_by(floor, pushes, firsts):
    """The run by pushes in which the blocks of a list of places fall where they race."""
    refuse_no_pushes(floor, pushes)
    floor.refuse_no_places(firsts)
    falls, stopped, raced = course(floor, pushes, firsts)
    return (falls, stopped)
