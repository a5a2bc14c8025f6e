"""The words of the document taken literally, by trying everything: slow, for small graphs.

A graph is its nodes, as the calls that make them, and its lines, as pairs of node numbers.
"""

import itertools

from tests.asking import JOINT, SHUT


def is_open(kind):
    return kind[1] == 1 and kind[2] > 0 and kind[3] == 0


def has_base(kind):
    return kind[3] == 1


def subsets(things):
    for size in range(len(things) + 1):
        yield from itertools.combinations(things, size)


def joined_with(pairs, number):
    return [b for a, b in pairs if a == number] + [a for a, b in pairs if b == number]


def reached(kinds, pairs, filled=()):
    """Goes over all lines until none brings a new node."""
    shut = [kind == SHUT or number in filled for number, kind in enumerate(kinds)]
    found = {number for number, kind in enumerate(kinds) if has_base(kind)}
    while True:
        brought = {b for a, b in pairs if a in found and not shut[a]}
        brought |= {a for a, b in pairs if b in found and not shut[b]}
        if brought <= found:
            return sorted(found)
        found |= brought


def price(kinds, stops):
    return sum(kinds[stop][2] for stop in stops)


def sets_that_shut_off(kinds, pairs, goal):
    fillable = [number for number, kind in enumerate(kinds) if is_open(kind) and number != goal]
    return [stops for stops in subsets(fillable) if goal not in reached(kinds, pairs, stops)]


def least_and_tight(kinds, pairs, goal):
    """The least number (None if there's none), and the tight stops."""
    shutting = sets_that_shut_off(kinds, pairs, goal)
    if not shutting:
        return None, []
    lowest = min(price(kinds, stops) for stops in shutting)
    return lowest, sorted({stop for stops in shutting if price(kinds, stops) == lowest for stop in stops})


def some_way(pairs, here, goal, walled, been):
    """Whether one comes from here to the goal through none of the walled nodes, trying every way."""
    for number in joined_with(pairs, here):
        if number == goal:
            return True
        if number not in walled and number not in been and some_way(pairs, number, goal, walled, [*been, number]):
            return True
    return False


def nearest_of(kinds, pairs, goal, tight):
    come_to = reached(kinds, pairs, [*tight, goal])
    return [stop for stop in tight if stop in come_to]


def furthest_of(kinds, pairs, goal, tight):
    walled = [number for number, kind in enumerate(kinds) if kind == SHUT or has_base(kind) or number in tight]
    return [stop for stop in tight if some_way(pairs, stop, goal, walled, [stop])]


def needed_of(kinds, pairs, goal):
    """Takes each node's lines and base away and looks whether the goal is still reached."""
    if goal not in reached(kinds, pairs):
        return []
    found = []
    for number in range(len(kinds)):
        without = [JOINT if place == number else kind for place, kind in enumerate(kinds)]
        kept = [pair for pair in pairs if number not in pair]
        if number != goal and goal not in reached(without, kept):
            found.append(number)
    return found


def wrongs(kinds, pairs, goal, way):
    """All the numbers that hold of what is wrong of the way."""
    between = [kinds[number] for number in way[1:-1] if number < len(kinds)]
    held = {
        1: not way or way[0] >= len(kinds) or not has_base(kinds[way[0]]),
        2: not way or way[-1] != goal,
        3: any(b not in joined_with(pairs, a) for a, b in itertools.pairwise(way)),
        4: any(way.count(number) > 1 for number in way),
        5: any(kind == SHUT or has_base(kind) for kind in between),
    }
    return [number for number, holds in held.items() if holds]


def judged(kinds, pairs, goal, told):
    """What the call ways answers."""
    for place, way in enumerate(told):
        wrong = wrongs(kinds, pairs, goal, way)
        if wrong:
            return [1, place, min(wrong)]
    for number, kind in enumerate(kinds):
        if is_open(kind) and number != goal and sum(number in way for way in told) > kind[2]:
            return [2, number]
    return [0, len(told)]


def every_way(kinds, pairs, goal):
    """All ways to the goal, found by going on from the bases as long as there's a node where one hasn't been."""
    found = []
    begun = [[number] for number, kind in enumerate(kinds) if has_base(kind)]
    while begun:
        way = begun.pop()
        if not wrongs(kinds, pairs, goal, way):
            found.append(way)
        begun += [[*way, number] for number in joined_with(pairs, way[-1]) if number not in way]
    return found
