"""The calls 9 least, 10 tight, 11 nearest and 12 furthest."""

import random
import unittest

from tests.asking import BASE, HIGHEST, JOINT, LOWEST, SHUT
from tests.asking import Asking, ask, cuts, fill, furthest, least, line, lines, nearest, node, set_stop, stop, tight
from tests.asking import unline
from tests.words import furthest_of, is_open, least_and_tight, nearest_of, price

# 0 base - 1 stop of 2 - 2 joint - 3 stop of 2 - 4 stop of 4
CHAIN = [BASE, stop(2), JOINT, stop(2), stop(4), *lines((0, 1), (1, 2), (2, 3), (3, 4))]


def diamond(free):
    """From the base 0 over the stops 1 and 2, of one each, both to the stop 3, of so many, to the joint 4."""
    return [BASE, stop(1), stop(1), stop(free), JOINT, *lines((0, 1), (0, 2), (1, 3), (2, 3), (3, 4))]


class CuttingTest(Asking):
    def all_four(self, built, goal, number, tight_ones, nearest_ones, furthest_ones):
        """What the four calls answer; number is None if there's no least number."""
        self.each(built, [
            (least(goal), [0] if number is None else [1, number]),
            (tight(goal), [len(tight_ones), *tight_ones]),
            (nearest(goal), [len(nearest_ones), *nearest_ones]),
            (furthest(goal), [len(furthest_ones), *furthest_ones]),
        ])

    def nothing_to_fill(self, built, goal, number):
        self.all_four(built, goal, number, [], [], [])


class SetsTest(CuttingTest):
    def test_one_stop_behind_another(self):
        self.all_four(CHAIN, 4, 2, [1, 3], [1], [3])

    def test_the_cheaper_stop_alone(self):
        built = [BASE, stop(3), stop(1), stop(2), JOINT, *lines((0, 1), (1, 2), (2, 3), (3, 4))]
        self.all_four(built, 4, 1, [2], [2], [2])

    def test_a_stop_of_two_places_against_two_of_one(self):
        self.all_four(diamond(2), 4, 2, [1, 2, 3], [1, 2], [3])

    def test_a_stop_of_three_places_against_two_of_one(self):
        self.all_four(diamond(3), 4, 2, [1, 2], [1, 2], [1, 2])

    def test_a_stop_of_one_place_against_two_of_one(self):
        self.all_four(diamond(1), 4, 1, [3], [3], [3])

    def test_nearest_and_furthest_share_a_stop(self):
        built = [BASE, stop(1), stop(1), stop(2), JOINT, JOINT]
        built += lines((0, 1), (1, 2), (2, 5), (0, 3), (3, 4), (4, 5))
        self.all_four(built, 5, 3, [1, 2, 3], [1, 3], [2, 3])

    def test_a_tight_stop_that_is_neither_nearest_nor_furthest(self):
        built = [BASE, stop(1), stop(1), stop(1), JOINT, *lines((0, 1), (1, 2), (2, 3), (3, 4))]
        self.all_four(built, 4, 1, [1, 2, 3], [1], [3])

    def test_by_rising_numbers_whatever_the_order_on_the_way(self):
        built = [JOINT, stop(1), stop(1), stop(1), stop(1), BASE]
        built += lines((5, 4), (4, 1), (1, 0), (5, 2), (2, 3), (3, 0))
        self.all_four(built, 0, 2, [1, 2, 3, 4], [2, 4], [1, 3])

    def test_a_line_across_lets_only_some_pairs_be_taken(self):
        # With the line 1 - 4, too, 2 and 3 filled leave a way; 1 and 4 filled leave none.
        built = [BASE, stop(1), stop(1), stop(1), stop(1), JOINT]
        built += lines((0, 1), (0, 2), (1, 3), (2, 4), (3, 5), (4, 5), (1, 4))
        self.all_four(built, 5, 2, [1, 2, 3, 4], [1, 2], [3, 4])
        self.all_four([*built, set_stop(3, 2, 0)], 5, 2, [1, 2, 4], [1, 2], [1, 4])
        self.all_four([*built, set_stop(2, 2, 0)], 5, 2, [1, 3, 4], [1, 4], [3, 4])
        self.all_four([*built, set_stop(1, 2, 0)], 5, 2, [3, 4], [3, 4], [3, 4])
        self.all_four([*built, set_stop(4, 2, 0)], 5, 2, [1, 2], [1, 2], [1, 2])

    def test_what_runs_one_way_must_be_led_another(self):
        # The short way 1 - 4 takes both stops up; only 1 - 3 and 2 - 4 together show that two are needed.
        built = [BASE, stop(1), stop(1), stop(1), stop(1), JOINT, JOINT, JOINT]
        built += lines((0, 1), (1, 4), (4, 7), (0, 5), (5, 2), (2, 4), (1, 3), (3, 6), (6, 7))
        self.all_four(built, 7, 2, [1, 2, 3, 4], [1, 2], [3, 4])

    def test_a_stop_beside_the_ways_is_not_tight(self):
        built = [*CHAIN, stop(1), stop(2), *lines((2, 5), (0, 6))]
        self.all_four(built, 4, 2, [1, 3], [1], [3])

    def test_a_shut_stop_beside_the_ways(self):
        built = [*CHAIN, SHUT, *lines((0, 5), (5, 4))]
        self.all_four(built, 4, 2, [1, 3], [1], [3])

    def test_several_bases(self):
        built = [BASE, node(1, 3, 1), stop(3), stop(4), JOINT, stop(1)]
        self.all_four([*built, *lines((0, 2), (1, 3), (2, 4), (3, 4), (4, 5))], 5, 7, [2, 3], [2, 3], [2, 3])
        self.all_four([*built, *lines((0, 2), (1, 2), (2, 4), (4, 5))], 5, 3, [2], [2], [2])

    def test_a_base_between_counts_as_a_beginning(self):
        built = [BASE, stop(1), BASE, stop(4), JOINT, *lines((0, 1), (1, 2), (2, 3), (3, 4))]
        self.all_four(built, 4, 4, [3], [3], [3])

    def test_they_follow_what_changes_the_graph(self):
        self.all_four([*CHAIN, fill(3)], 4, 1, [3], [3], [3])
        self.nothing_to_fill([*CHAIN, fill(3), fill(3)], 4, 0)
        self.all_four([*CHAIN, set_stop(1, 4, 0)], 4, 2, [3], [3], [3])
        self.all_four([*CHAIN, line(0, 3)], 4, 2, [3], [3], [3])
        self.nothing_to_fill([*CHAIN, line(0, 4)], 4, None)
        self.nothing_to_fill([*CHAIN, unline(1)], 4, 0)
        self.nothing_to_fill([*CHAIN, set_stop(3, 0, 1)], 4, None)


class GoalsTest(CuttingTest):
    def test_a_joint(self):
        self.all_four(CHAIN, 2, 2, [1], [1], [1])

    def test_a_stop_that_is_open_to_strangers_is_not_filled_itself(self):
        built = [BASE, stop(3), stop(1), stop(1), *lines((0, 1), (1, 2), (2, 3))]
        self.all_four(built, 2, 3, [1], [1], [1])
        self.all_four(built, 3, 1, [2], [2], [2])

    def test_a_shut_stop(self):
        built = [BASE, stop(2), stop(2), SHUT, *lines((0, 1), (1, 2), (2, 3))]
        self.all_four(built, 3, 2, [1, 2], [1], [2])
        self.nothing_to_fill([BASE, SHUT, line(0, 1)], 1, None)

    def test_a_node_with_a_base(self):
        self.nothing_to_fill(CHAIN, 0, None)
        self.nothing_to_fill([node(1, 4, 1)], 0, None)
        built = [BASE, stop(1), node(1, 2, 1), *lines((0, 1), (1, 2))]
        self.nothing_to_fill(built, 2, None)

    def test_a_node_that_is_not_reached(self):
        self.nothing_to_fill([*CHAIN, stop(2), JOINT, SHUT, line(5, 6)], 5, 0)
        self.nothing_to_fill([*CHAIN, stop(2), JOINT, SHUT, line(5, 6)], 6, 0)
        self.nothing_to_fill([*CHAIN, stop(2), JOINT, SHUT, line(5, 6)], 7, 0)

    def test_a_node_behind_a_shut_stop(self):
        built = [BASE, stop(1), SHUT, stop(1), stop(1), *lines((0, 1), (1, 2), (2, 3), (3, 4))]
        self.nothing_to_fill(built, 3, 0)
        self.nothing_to_fill(built, 4, 0)
        self.all_four(built, 2, 1, [1], [1], [1])

    def test_without_any_base(self):
        built = [stop(1), JOINT, SHUT, stop(4), *lines((0, 1), (1, 2), (1, 3))]
        for goal in range(4):
            self.nothing_to_fill(built, goal, 0)

    def test_beside_a_base(self):
        self.nothing_to_fill(CHAIN, 1, None)
        self.nothing_to_fill([BASE, stop(1), JOINT, *lines((0, 1), (1, 2), (2, 0))], 2, None)

    def test_beside_a_base_that_has_free_places(self):
        self.nothing_to_fill([node(1, 4, 1), JOINT, stop(1), *lines((0, 1), (0, 2))], 1, None)
        self.nothing_to_fill([node(1, 4, 1), JOINT, stop(1), *lines((0, 1), (0, 2))], 2, None)

    def test_behind_joints_alone(self):
        built = [BASE, JOINT, JOINT, stop(1), stop(1), SHUT]
        built += lines((0, 1), (1, 2), (2, 3), (0, 4), (4, 3), (2, 5))
        self.nothing_to_fill(built, 2, None)
        self.nothing_to_fill(built, 3, None)
        self.nothing_to_fill(built, 5, None)

    def test_no_such_goal(self):
        for call in (least, tight, nearest, furthest):
            for wrong in (-1, 5, 24, -5, LOWEST, HIGHEST):
                self.refused(CHAIN, call(wrong), -1)
            self.refused([], call(0), -1)


def small_graph(chance):
    """Five to eight nodes, most of them open to strangers; the nodes and the pairs."""
    kinds = [BASE]
    for number in range(chance.randrange(4, 8)):
        kinds.append(chance.choice([JOINT, SHUT, node(1, 2, 1), *[stop(free) for free in (1, 1, 1, 2, 2, 3, 4)]]))
    chance.shuffle(kinds)
    every_pair = [(a, b) for a in range(len(kinds)) for b in range(a)]
    return kinds, chance.sample(every_pair, chance.randrange(len(kinds) - 2, 2 * len(kinds) - 3))


class WordsTest(CuttingTest):
    def test_small_graphs_against_every_set_of_stops(self):
        chance = random.Random(9)
        apart = shared = 0
        for graph in range(1500):
            kinds, pairs = small_graph(chance)
            calls = [call(goal) for goal in range(len(kinds)) for call in (least, tight, nearest, furthest)]
            told = ask(*kinds, *lines(*pairs), *calls)[-len(calls):]
            for goal in range(len(kinds)):
                number, stops = least_and_tight(kinds, pairs, goal)
                near = nearest_of(kinds, pairs, goal, stops)
                far = furthest_of(kinds, pairs, goal, stops)
                wanted = [[0] if number is None else [1, number]]
                wanted += [[len(some), *some] for some in (stops, near, far)]
                self.assertEqual(told[4 * goal:4 * goal + 4], wanted, (kinds, pairs, goal))
                apart += near != far
                shared += near != far and set(near) & set(far) != set()
        # The graphs must be such that something is shown by them.
        self.assertGreater(apart, 150)
        self.assertGreater(shared, 15)

    def test_nearest_and_furthest_shut_off_at_the_least_price(self):
        chance = random.Random(11)
        for graph in range(100):
            kinds, pairs = small_graph(chance)
            built = [*kinds, *lines(*pairs)]
            for goal in range(len(kinds)):
                number, near, far = ask(*built, least(goal), nearest(goal), furthest(goal))[-3:]
                if number == [0]:
                    continue
                for stops in (near[1:], far[1:]):
                    self.assertTrue(all(is_open(kinds[one]) and one != goal for one in stops))
                    self.assertEqual(price(kinds, stops), number[1])
                    self.last(built, cuts(goal, *stops), [1, number[1]])


if __name__ == "__main__":
    unittest.main()
