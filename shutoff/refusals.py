"""The numbers that calls answer when they refuse."""

NO_SUCH_NODE = -1
OUT_OF_RANGE = -2
NOT_THAT_KIND = -3
NO_MORE_ROOM = -4
NO_SUCH_LINE = -5
THERE_TWICE = -6
JOINED_ALREADY = -7
BADLY_TOLD_WAYS = -8
