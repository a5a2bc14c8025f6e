"""Which nodes the company reaches."""


def reached_nodes(network, filled):
    """The reached nodes by rising numbers, as if the stops of the list filled were shut."""
    joined = network.neighbours()
    reached = [node.base == 1 for node in network.nodes]
    waiting = [number for number, node in enumerate(network.nodes) if node.base == 1]
    while waiting:
        here = waiting.pop()
        # A shut stop is reached itself, but it lets nobody through.
        if here in filled or network.nodes[here].is_shut():
            continue
        for number in joined[here]:
            if not reached[number]:
                reached[number] = True
                waiting.append(number)
    return [number for number, is_reached in enumerate(reached) if is_reached]
