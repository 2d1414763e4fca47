"""The refusals: one class for each reason why something is refused."""


class FallError(ValueError):
    """Any refusal."""


class NoFloor(FallError):
    """What is to be a floor is none."""


class NoText(FallError):
    """What is to be read as a floor isn't written as one."""


class NoPlace(FallError):
    """What is to be a place of the floor is none."""


class NoPush(FallError):
    """What are to be pushes are none."""


class NotLight(FallError):
    """The floor has blocks or heavy stones."""


class NoNumber(FallError):
    """A number is none, or is out of its bounds."""


class NoRoom(FallError):
    """There is no room on a floor for what is asked."""


class NoWays(FallError):
    """What are to be ways in are none."""


class NoChoice(FallError):
    """What is to be a choice of ways in is none."""


class NoNet(FallError):
    """What is to be a net is none."""


class NoArrivals(FallError):
    """What are to be a net's arrivals are none."""


class NoLates(FallError):
    """What are to be a net's lates are none."""


class NoTables(FallError):
    """What are to be tables are none."""


class NoRow(FallError):
    """What is to be a rising row is none."""


class CantBe(FallError):
    """What is asked for is nothing that a net or a floor can do."""


class NoTiming(FallError):
    """What is to be a timing is none."""


class TooMany(FallError):
    """The net is too large to be laid."""


class NoSay(FallError):
    """What the desk is told is none of its rows."""


class NoName(FallError):
    """A name is none, or nothing is kept by it."""
