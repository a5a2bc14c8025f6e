"""Which stops strangers would have to fill so that the company doesn't reach a goal any more."""

from shutoff.flow import Flow
from shutoff.reach import nodes_come_to, reached_nodes

# More than the 96 free places that 24 stops can have together: so much room never holds anybody up.
PLENTY = 97


def is_cut_off(network, goal, filled):
    """Whether the goal isn't reached with these stops filled, but for the goal itself, which stays as it is."""
    return goal not in reached_nodes(network, [stop for stop in filled if stop != goal])


def stops_to_fill(network, goal):
    """The stops that strangers may fill to shut off the goal."""
    return [stop for stop, node in enumerate(network.nodes) if node.is_open_to_strangers() and stop != goal]


def room_at(node):
    """How many at once may go through the node."""
    if node.stop == 0 or node.base == 1:
        return PLENTY
    return node.free


def least_price(network, goal, filled):
    """The least price of a set that shuts off the goal once these stops are filled; there must be such a set."""
    # It's the most that can run to the goal at once, if no more runs through a stop than it has free places.
    # A node is two sides, 2 * number to come in and 2 * number + 1 to go out, so that the arc between holds it to that.
    flow = Flow(2 * len(network.nodes))
    for number, node in enumerate(network.nodes):
        if number not in filled:
            flow.add_arc(2 * number, 2 * number + 1, room_at(node))
    for line in network.lines:
        flow.add_arc(2 * line[0] + 1, 2 * line[1], PLENTY)
        flow.add_arc(2 * line[1] + 1, 2 * line[0], PLENTY)
    starts = [2 * number + 1 for number, node in enumerate(network.nodes) if node.base == 1]
    return flow.most(starts, 2 * goal)


def least_number(network, goal):
    """The goal's least number, or None if there is none."""
    if not is_cut_off(network, goal, stops_to_fill(network, goal)):
        return None
    return least_price(network, goal, [])


def tight_stops(network, goal):
    """The stops, by rising numbers, that are in some set of the least price that shuts off the goal."""
    least = least_number(network, goal)
    if least is None or least == 0:
        return []
    tight = []
    for stop in stops_to_fill(network, goal):
        # The cheapest set with this stop is the stop and what is still to be filled once the stop is.
        if network.nodes[stop].free + least_price(network, goal, [stop]) == least:
            tight.append(stop)
    return tight


def nearest_stops(network, goal):
    tight = tight_stops(network, goal)
    reached = reached_nodes(network, tight + [goal])
    return [stop for stop in tight if stop in reached]


def furthest_stops(network, goal):
    tight = tight_stops(network, goal)
    closed = [number for number, node in enumerate(network.nodes) if node.is_shut() or node.base == 1]
    # Lines go both ways, so one looks back from the goal; a shut goal doesn't hinder those who come to it.
    barred = [number for number in closed + tight if number != goal]
    behind = nodes_come_to(network, [goal], barred)
    return [stop for stop in tight if stop in behind]


def weakest_stop(network):
    """The reached stop without a base that has the smallest least number, and that number; None if there's none."""
    weakest = None
    for stop in reached_nodes(network, []):
        node = network.nodes[stop]
        if node.stop == 1 and node.base == 0:
            least = least_number(network, stop)
            if least is not None and (weakest is None or least < weakest[1]):
                weakest = (stop, least)
    return weakest
