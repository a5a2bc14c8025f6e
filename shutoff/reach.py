"""Which nodes the company reaches, and without which ones it wouldn't."""


def nodes_come_to(network, starts, barred):
    """The nodes that one comes to from the starts, by rising numbers, if one goes on from none of those barred."""
    joined = network.neighbours()
    come_to = dict([(start, True) for start in starts])
    waiting = list(starts)
    while waiting:
        here = waiting.pop()
        if here in barred:
            continue
        for number in joined[here]:
            if number not in come_to:
                come_to[number] = True
                waiting.append(number)
    return sorted(come_to)


def reached_nodes(network, barred):
    """The reached nodes by rising numbers, as if nobody went through the nodes of the list barred."""
    bases = [number for number, node in enumerate(network.nodes) if node.base == 1]
    # A shut stop is reached itself, but it lets nobody through.
    shut = [number for number, node in enumerate(network.nodes) if node.is_shut()]
    return nodes_come_to(network, bases, shut + barred)


def needed_nodes(network, goal):
    """The nodes but the goal without which the goal, which is reached, wouldn't be; none if it isn't reached."""
    if goal not in reached_nodes(network, []):
        return []
    others = [number for number in range(len(network.nodes)) if number != goal]
    return [number for number in others if goal not in reached_nodes(network, [number])]
