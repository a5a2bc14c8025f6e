"""The calls 9 to 17 over graphs of 24 nodes and 48 lines, the largest that the document lets be."""

import random
import unittest

from tests.asking import ALL, BASE, GRAPH, JOINT, WEAKEST
from tests.asking import Asking, ask, cuts, furthest, least, line, lines, nearest, needed, node, set_stop, stop, tight
from tests.asking import ways
from tests.words import has_base, is_open, price

# From the base 0 over each of 22 stops to the stop 23.
FANS = [BASE] + [stop(4)] * 23
FANS += lines(*[(0, number) for number in range(1, 23)], *[(number, 23) for number in range(1, 23)])
FANS += lines((1, 2), (3, 4), (5, 6), (7, 8))
IN_FANS = list(range(1, 23))

# From the base 0 through seven rows of three stops, 1 to 21, to the stop 22 and to 23 behind it.
ROWS = [BASE] + [stop(4)] * 23
ROWS += lines((0, 1), (0, 2), (0, 3), (19, 22), (20, 22), (21, 22), (22, 23))
ROWS += lines(*[(3 * row + place, 3 * row + 3 + place) for row in range(6) for place in (1, 2, 3)])
ROWS += lines(*[(3 * row + place, 3 * row + 3 + place % 3 + 1) for row in range(6) for place in (1, 2, 3)])
ROWS += lines((1, 2), (4, 5), (7, 8), (10, 11), (13, 14))
IN_ROWS = list(range(1, 22))
DOWN_THE_ROWS = [[0, *range(place, 22, 3), 22] for place in (1, 2, 3)]


def room_of(kind):
    return kind[2] if kind[1] == 1 and kind[3] == 0 else 1000


def all_room(kinds, pairs):
    """How many can go through each node and along each line; what's behind a node is told by its number and 0.5."""
    room = {(number, number + 0.5): room_of(kind) for number, kind in enumerate(kinds)}
    for a, b in pairs:
        room[a + 0.5, b] = room[b + 0.5, a] = 1000
    for number, kind in enumerate(kinds):
        if has_base(kind):
            room["bases", number + 0.5] = 1000
    return room


def one_more(room, used, goal):
    """The pairs of a way from the bases to the goal that has room, or takes back what others use; None if none has."""
    came_from = {"bases": None}
    waiting = ["bases"]
    while waiting and goal not in came_from:
        here = waiting.pop()
        onward = [b for a, b in room if a == here and used[a, b] < room[a, b]]
        for side in onward + [a for a, b in room if b == here and used[a, b] > 0]:
            if side not in came_from:
                came_from[side] = here
                waiting.append(side)
    if goal not in came_from:
        return None
    pairs = []
    while came_from[goal] is not None:
        pairs.append((came_from[goal], goal))
        goal = came_from[goal]
    return pairs


def ways_at_once(kinds, pairs, goal):
    """As many ways to the goal as can be at once, found by adding one after another."""
    room = all_room(kinds, pairs)
    used = dict.fromkeys(room, 0)
    found = one_more(room, used, goal)
    while found is not None:
        for a, b in found:
            if used.get((b, a), 0) > 0:
                used[b, a] -= 1
            else:
                used[a, b] += 1
        found = one_more(room, used, goal)
    begun = sum(used[pair] for pair in used if pair[0] == "bases")
    return [taken_way(kinds, used, goal) for way in range(begun)]


def taken_way(kinds, used, goal):
    """Follows what is used from the bases to the goal once, leaves out rounds, and takes it out of what is used."""
    here = "bases"
    way = []
    while here != goal:
        there = next(b for a, b in used if a == here and used[a, b] > 0)
        used[here, there] -= 1
        here = there
        number = int(here)
        if number in way:
            way = way[:way.index(number)]
        if has_base(kinds[number]):
            way = []
        way.append(number)
    return way


def largest_graph(chance):
    kinds = [BASE, node(1, 4, 1), JOINT, JOINT, JOINT, *[stop(chance.randrange(1, 5)) for number in range(19)]]
    chance.shuffle(kinds)
    return kinds, chance.sample([(a, b) for a in range(24) for b in range(a)], 48)


class LargestTest(Asking):
    def test_these_are_the_largest(self):
        for built in (FANS, ROWS):
            self.assertEqual(ask(*built, GRAPH)[-2:-1], [[47]])
            self.refused(built, JOINT, -4)
            self.refused(built, line(0, 23), -4)

    def test_fans(self):
        self.each(FANS, [
            (least(23), [1, 88]),
            (tight(23), [22, *IN_FANS]),
            (nearest(23), [22, *IN_FANS]),
            (furthest(23), [22, *IN_FANS]),
            (cuts(23, *IN_FANS), [1, 88]),
            (cuts(23, *IN_FANS, 23), [1, 92]),
            (cuts(23, *IN_FANS[1:]), [0, 84]),
            (ways(23, *[[0, number, 23] for number in IN_FANS] * 4), [0, 88]),
            (ways(23, *[[0, number, 23] for number in IN_FANS] * 4, [0, 9, 23]), [2, 9]),
            (needed(23), [1, 0]),
            (ALL, [24, 0, 0, *[told for number in IN_FANS for told in (number, 0)], 23, 1, 88]),
            (WEAKEST, [1, 23, 88]),
        ])

    def test_rows(self):
        self.each(ROWS, [
            (least(22), [1, 12]),
            (tight(22), [21, *IN_ROWS]),
            (nearest(22), [3, 1, 2, 3]),
            (furthest(22), [3, 19, 20, 21]),
            (cuts(22, 10, 11, 12), [1, 12]),
            (cuts(22, 10, 11, 13), [0, 12]),
            (ways(22, *DOWN_THE_ROWS * 4), [0, 12]),
            (ways(22, *DOWN_THE_ROWS * 4, DOWN_THE_ROWS[1]), [2, 2]),
            (needed(22), [1, 0]),
            (needed(23), [2, 0, 22]),
            (least(23), [1, 4]),
            (tight(23), [1, 22]),
            (WEAKEST, [1, 23, 4]),
        ])
        in_the_middle = [told for number in range(4, 23) for told in (number, 1, 12)]
        self.last(ROWS, ALL, [24, 0, 0, 1, 0, 2, 0, 3, 0, *in_the_middle, 23, 1, 4])

    def test_as_many_ways_at_once_as_the_least_number(self):
        # A set of the price and as many ways at once: so there's neither a cheaper set nor one way more.
        chance = random.Random(24)
        for graph in range(6):
            kinds, pairs = largest_graph(chance)
            built = [*kinds, *lines(*pairs)]
            every_stop = [one for one in range(24) if is_open(kinds[one])]
            for goal in range(24):
                number, near, far = ask(*built, least(goal), nearest(goal), furthest(goal))[-3:]
                if number == [0]:
                    self.last(built, cuts(goal, *every_stop), [0, price(kinds, every_stop)])
                    continue
                self.each(built, [
                    (cuts(goal, *near[1:]), [1, number[1]]),
                    (cuts(goal, *far[1:]), [1, number[1]]),
                    (ways(goal, *ways_at_once(kinds, pairs, goal)), [0, number[1]]),
                ])

    def test_filling_a_tight_stop_saves_its_free_places(self):
        chance = random.Random(25)
        for graph in range(3):
            kinds, pairs = largest_graph(chance)
            built = [*kinds, *lines(*pairs)]
            for goal in range(0, 24, 3):
                number, stops = ask(*built, least(goal), tight(goal))[-2:]
                if number == [0]:
                    self.assertEqual(stops, [0])
                    continue
                for one in [one for one in range(24) if is_open(kinds[one]) and one != goal]:
                    rest = ask(*built, set_stop(one, 0, 0), least(goal))[-1]
                    saves = rest[1] + kinds[one][2] == number[1]
                    self.assertEqual(saves, one in stops[1:], (kinds, pairs, goal, one))

    def test_400_calls_of_all_kinds(self):
        round_of_calls = [call for goal in (22, 23, 12) for call in (
            least(goal), tight(goal), nearest(goal), furthest(goal), cuts(goal, *IN_ROWS),
            ways(goal, *DOWN_THE_ROWS), needed(goal), ALL, WEAKEST)]
        for built in (FANS, ROWS):
            self.assertEqual(len(built), 72)
            told = ask(*built, *(round_of_calls * 13)[:328])[72:]
            self.assertEqual(told, (told[:len(round_of_calls)] * 13)[:328])

    def test_400_calls_of_the_slowest_kinds(self):
        for call in (tight(23), ALL):
            told = ask(*FANS, *[call] * 328)[72:]
            self.assertEqual(told, told[:1] * 328)


if __name__ == "__main__":
    unittest.main()
