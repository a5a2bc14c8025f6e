"""Ways that somebody tells: how they are read, and what is wrong of them."""

from shutoff.cutting import stops_to_fill

NOTHING_WRONG = 0
NO_BASE_AT_ITS_BEGINNING = 1
NO_GOAL_AT_ITS_END = 2
NOT_JOINED = 3
SAME_NODE_AGAIN = 4
NO_WAY_THROUGH = 5


def ways_of_row(row):
    """The ways that the row tells, each as a list of nodes, or None if it can't be read as ways."""
    # Each number is a count or a node's, and neither may be below 0.
    if any([number < 0 for number in row]):
        return None
    ways = []
    place = 0
    while place < len(row):
        end = place + 1 + row[place]
        if end > len(row):
            return None
        ways.append(row[place + 1:end])
        place = end
    return ways


def begins_at_base(network, way):
    return len(way) > 0 and network.has_node(way[0]) and network.nodes[way[0]].base == 1


def lets_through(node):
    return not node.is_shut() and node.base == 0


def wrong_of_way(network, goal, way):
    """The least number of what is wrong of the way, or 0 if nothing is."""
    if not begins_at_base(network, way):
        return NO_BASE_AT_ITS_BEGINNING
    if way[-1] != goal:
        return NO_GOAL_AT_ITS_END
    # From here on every number is a node's: nothing is joined with what is no node.
    if not all([network.are_joined(a, b) for a, b in zip(way, way[1:])]):
        return NOT_JOINED
    if len(set(way)) != len(way):
        return SAME_NODE_AGAIN
    if not all([lets_through(network.nodes[number]) for number in way[1:-1]]):
        return NO_WAY_THROUGH
    return NOTHING_WRONG


def crowded_stop(network, goal, ways):
    """The least stop but the goal that lies between the ends of more ways than it has free places, or None."""
    for stop in stops_to_fill(network, goal):
        through = [way for way in ways if stop in way[1:-1]]
        if len(through) > network.nodes[stop].free:
            return stop
    return None
