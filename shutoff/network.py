"""Nodes and lines, and what can be said of one of them by itself."""

MOST_NODES = 24
MOST_LINES = 48
MOST_FREE = 4


class Node:
    """A stop (stop is 1) or a joint (stop is 0; its free and base stay 0)."""

    def __init__(self, stop, free, base):
        self.stop = stop
        self.free = free
        self.base = base

    def is_shut(self):
        # A joint has no free places either, yet nobody can shut it.
        return self.stop == 1 and self.free == 0 and self.base == 0

    def is_open_to_strangers(self):
        return self.stop == 1 and self.free > 0 and self.base == 0


class Network:
    """Nodes, and lines as pairs of node numbers, each numbered by its place in its list."""

    def __init__(self):
        self.nodes = []
        self.lines = []

    def has_node(self, number):
        return 0 <= number < len(self.nodes)

    def has_line(self, number):
        return 0 <= number < len(self.lines)

    def are_joined(self, a, b):
        return (a, b) in self.lines or (b, a) in self.lines

    def neighbours(self):
        """For each node the list of those that are joined with it."""
        joined = [[] for node in self.nodes]
        for line in self.lines:
            joined[line[0]].append(line[1])
            joined[line[1]].append(line[0])
        return joined
