"""Putting nets together node by node."""


class NetMaker:
    """A net in the making; a node that is asked for again is told by the number that it has already."""

    def __init__(self):
        self.made = []
        self.numbered = {}

    def put(self, node):
        """The number of a node, which is put at the end of the net if it isn't there yet."""
        if node not in self.numbered:
            self.numbered[node] = len(self.made)
            self.made.append(node)
        return self.numbered[node]

    def late(self, number, d):
        """The number of a node that comes d beats later than another one."""
        return number if d == 0 else self.put(("late", number, d))

    def any_of(self, numbers):
        """The number of a node that is so where one of some nodes is, or None without any."""
        return self.chain("or", numbers)

    def all_of(self, numbers):
        """The number of a node that is so where all of some nodes are, or None without any."""
        return self.chain("both", numbers)

    def chain(self, word, numbers):
        """The number of the node that puts some nodes together by a word for two, or None without any."""
        whole = None
        for number in numbers:
            whole = number if whole in (None, number) else self.put((word, whole, number))
        return whole
