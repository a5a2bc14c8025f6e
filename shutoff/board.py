"""The calls, told as one list of whole numbers, and their answers, told as another."""

from shutoff.cutting import furthest_stops, is_cut_off, least_number, nearest_stops, tight_stops, weakest_stop
from shutoff.network import MOST_FREE, MOST_LINES, MOST_NODES, Network, Node
from shutoff.reach import needed_nodes, reached_nodes
from shutoff.refusals import BADLY_TOLD_WAYS, JOINED_ALREADY, NO_MORE_ROOM, NO_SUCH_LINE, NO_SUCH_NODE
from shutoff.refusals import NOT_THAT_KIND, OUT_OF_RANGE, THERE_TWICE
from shutoff.ways import NOTHING_WRONG, crowded_stop, ways_of_row, wrong_of_way


def are_in_range(free, base):
    return 0 <= free <= MOST_FREE and base in (0, 1)


def counted(numbers):
    """The numbers with how many they are before them."""
    return [len(numbers)] + numbers


def row_refusal(network, row):
    """The refusal of a row of stops to be filled, or None if there is none."""
    # Each refusal is looked for in the whole row before the next one is looked for at all.
    if not all([network.has_node(number) for number in row]):
        return NO_SUCH_NODE
    if not all([network.nodes[number].is_open_to_strangers() for number in row]):
        return NOT_THAT_KIND
    if len(set(row)) != len(row):
        return THERE_TWICE
    return None


def answer_node(network, arguments):
    stop = arguments[0]
    free = arguments[1]
    base = arguments[2]
    if stop not in (0, 1) or not are_in_range(free, base):
        return [OUT_OF_RANGE]
    if stop == 0 and (free != 0 or base != 0):
        return [OUT_OF_RANGE]
    if len(network.nodes) == MOST_NODES:
        return [NO_MORE_ROOM]
    network.nodes.append(Node(stop, free, base))
    return [len(network.nodes) - 1]


def answer_line(network, arguments):
    a = arguments[0]
    b = arguments[1]
    if not network.has_node(a) or not network.has_node(b):
        return [NO_SUCH_NODE]
    if a == b:
        return [OUT_OF_RANGE]
    if network.are_joined(a, b):
        return [JOINED_ALREADY]
    if len(network.lines) == MOST_LINES:
        return [NO_MORE_ROOM]
    network.lines.append((a, b))
    return [len(network.lines) - 1]


def answer_set(network, arguments):
    number = arguments[0]
    free = arguments[1]
    base = arguments[2]
    if not network.has_node(number):
        return [NO_SUCH_NODE]
    if not are_in_range(free, base):
        return [OUT_OF_RANGE]
    node = network.nodes[number]
    if node.stop == 0:
        return [NOT_THAT_KIND]
    node.free = free
    node.base = base
    return [0]


def answer_unline(network, arguments):
    number = arguments[0]
    if not network.has_line(number):
        return [NO_SUCH_LINE]
    network.lines.pop(number)
    return [0]


def answer_clear(network, arguments):
    network.nodes = []
    network.lines = []
    return [0]


def answer_graph(network, arguments):
    told = [len(network.nodes)]
    for node in network.nodes:
        told.extend([node.stop, node.free, node.base])
    told.append(len(network.lines))
    for line in network.lines:
        told.extend([line[0], line[1]])
    return told


def answer_fill(network, arguments):
    number = arguments[0]
    if not network.has_node(number):
        return [NO_SUCH_NODE]
    node = network.nodes[number]
    if not node.is_open_to_strangers():
        return [NOT_THAT_KIND]
    node.free = node.free - 1
    return [node.free]


def answer_reach(network, arguments):
    return counted(reached_nodes(network, []))


def answer_reach_if(network, arguments):
    row = arguments[0]
    refusal = row_refusal(network, row)
    if refusal is not None:
        return [refusal]
    return counted(reached_nodes(network, row))


def told_least(network, goal):
    least = least_number(network, goal)
    if least is None:
        return [0]
    return [1, least]


def answer_least(network, arguments):
    goal = arguments[0]
    if not network.has_node(goal):
        return [NO_SUCH_NODE]
    return told_least(network, goal)


def answer_tight(network, arguments):
    goal = arguments[0]
    if not network.has_node(goal):
        return [NO_SUCH_NODE]
    return counted(tight_stops(network, goal))


def answer_nearest(network, arguments):
    goal = arguments[0]
    if not network.has_node(goal):
        return [NO_SUCH_NODE]
    return counted(nearest_stops(network, goal))


def answer_furthest(network, arguments):
    goal = arguments[0]
    if not network.has_node(goal):
        return [NO_SUCH_NODE]
    return counted(furthest_stops(network, goal))


def answer_cuts(network, arguments):
    goal = arguments[0]
    row = arguments[1]
    if not network.has_node(goal):
        return [NO_SUCH_NODE]
    refusal = row_refusal(network, row)
    if refusal is not None:
        return [refusal]
    price = sum([network.nodes[stop].free for stop in row])
    if is_cut_off(network, goal, row):
        return [1, price]
    return [0, price]


def answer_ways(network, arguments):
    goal = arguments[0]
    if not network.has_node(goal):
        return [NO_SUCH_NODE]
    ways = ways_of_row(arguments[1])
    if ways is None:
        return [BADLY_TOLD_WAYS]
    for place, way in enumerate(ways):
        wrong = wrong_of_way(network, goal, way)
        if wrong != NOTHING_WRONG:
            return [1, place, wrong]
    stop = crowded_stop(network, goal, ways)
    if stop is not None:
        return [2, stop]
    return [0, len(ways)]


def answer_needed(network, arguments):
    goal = arguments[0]
    if not network.has_node(goal):
        return [NO_SUCH_NODE]
    return counted(needed_nodes(network, goal))


def answer_all(network, arguments):
    stops = [number for number, node in enumerate(network.nodes) if node.stop == 1]
    told = [len(stops)]
    for stop in stops:
        told.append(stop)
        told.extend(told_least(network, stop))
    return told


def answer_weakest(network, arguments):
    weakest = weakest_stop(network)
    if weakest is None:
        return [0]
    return [1, weakest[0], weakest[1]]


# By a call's number: how many whole numbers it takes, how many rows (0 or 1) behind them, and who answers it.
CALLS = {
    0: (3, 0, answer_node),
    1: (2, 0, answer_line),
    2: (3, 0, answer_set),
    3: (1, 0, answer_unline),
    4: (0, 0, answer_clear),
    5: (0, 0, answer_graph),
    6: (1, 0, answer_fill),
    7: (0, 0, answer_reach),
    8: (0, 1, answer_reach_if),
    9: (1, 0, answer_least),
    10: (1, 0, answer_tight),
    11: (1, 0, answer_nearest),
    12: (1, 0, answer_furthest),
    13: (1, 1, answer_cuts),
    14: (1, 1, answer_ways),
    15: (1, 0, answer_needed),
    16: (0, 0, answer_all),
    17: (0, 0, answer_weakest),
}


def answers(calls):
    """What the calls answer, one behind another: of each how many numbers, then these."""
    network = Network()
    told = []
    place = 0
    while place < len(calls):
        shape = CALLS[calls[place]]
        behind = place + 1 + shape[0]
        arguments = calls[place + 1:behind]
        if shape[1] == 1:
            row_end = behind + 1 + calls[behind]
            arguments.append(calls[behind + 1:row_end])
            behind = row_end
        answer_call = shape[2]
        told.extend(counted(answer_call(network, arguments)))
        place = behind
    return told
