"""The call 14 ways."""

import random
import unittest

from tests.asking import BASE, HIGHEST, JOINT, LOWEST, SHUT
from tests.asking import Asking, ask, fill, least, lines, node, set_stop, stop, unline, ways, ways_row
from tests.words import every_way, judged

# 0 base and 1 base with free places; 2, 3 stops of 1, 4 stop of 2, 5 joint, 6 shut, 7 stop of 1, mostly the goal
NODES = [BASE, node(1, 3, 1), stop(1), stop(1), stop(2), JOINT, SHUT, stop(1)]
PAIRS = [(0, 1), (0, 2), (2, 4), (4, 7), (1, 3), (3, 4), (0, 5), (5, 7), (5, 2), (0, 6), (6, 7), (1, 7)]
BUILT = NODES + lines(*PAIRS)


class RightWaysTest(Asking):
    def test_ordinary(self):
        self.each(BUILT, [
            (ways(7, [0, 2, 4, 7]), [0, 1]),
            (ways(7, [0, 2, 4, 7], [1, 3, 4, 7]), [0, 2]),
            (ways(7, [0, 2, 4, 7], [1, 3, 4, 7], [0, 5, 7], [1, 7]), [0, 4]),
        ])

    def test_no_ways_at_all(self):
        for goal in range(8):
            self.last(BUILT, ways(goal), [0, 0])

    def test_a_way_that_is_the_goal_alone(self):
        self.each(BUILT, [
            (ways(0, [0]), [0, 1]),
            (ways(1, [1], [1], [1]), [0, 3]),
            (ways(7, [7]), [1, 0, 1]),
            (ways(5, [5]), [1, 0, 1]),
        ])

    def test_a_goal_with_a_base(self):
        self.each(BUILT, [
            (ways(1, [0, 1]), [0, 1]),
            (ways(1, [0, 2, 4, 3, 1], [1]), [0, 2]),
            (ways(1, [0, 1, 0, 1]), [1, 0, 4]),
        ])

    def test_a_shut_goal(self):
        self.last(BUILT, ways(6, [0, 6], [0, 5, 7, 6]), [0, 2])

    def test_the_same_way_more_than_once(self):
        self.each(BUILT, [
            (ways(7, [1, 7], [1, 7], [1, 7]), [0, 3]),
            (ways(7, [0, 5, 7], [0, 5, 7]), [0, 2]),
            (ways(7, [0, 5, 2, 4, 7]), [0, 1]),
            (ways(7, [0, 5, 2, 4, 7], [0, 5, 2, 4, 7]), [2, 2]),
        ])

    def test_the_goal_on_more_ways_than_it_has_free_places(self):
        self.last(BUILT, ways(7, *[[1, 7]] * 5, [0, 5, 7], [0, 2, 4, 7]), [0, 7])

    def test_a_base_on_more_ways_than_it_has_free_places(self):
        self.last(BUILT, ways(3, *[[1, 3]] * 9), [0, 9])

    def test_a_joint_on_many_ways(self):
        self.last(BUILT, ways(7, *[[0, 5, 7]] * 200), [0, 200])

    def test_as_many_as_a_stop_has_free_places(self):
        self.last([*BUILT, set_stop(2, 4, 0), set_stop(4, 4, 0)], ways(7, *[[0, 2, 4, 7]] * 4), [0, 4])


class CrowdedTest(Asking):
    def test_a_stop_with_one_way_too_many(self):
        self.last(BUILT, ways(7, [0, 2, 4, 7], [0, 5, 2, 4, 7]), [2, 2])
        self.last([*BUILT, set_stop(2, 4, 0)], ways(7, *[[0, 2, 4, 7]] * 3), [2, 4])

    def test_the_least_of_two_such_stops(self):
        three = ways(7, [1, 3, 4, 7], [0, 2, 4, 7], [1, 3, 4, 7])
        self.last(BUILT, three, [2, 3])
        self.last([*BUILT, set_stop(3, 2, 0)], three, [2, 4])
        self.last(BUILT, ways(7, *[[1, 3, 4, 7]] * 2, *[[0, 2, 4, 7]] * 2), [2, 2])

    def test_a_wrong_way_is_told_ahead(self):
        self.last(BUILT, ways(7, [0, 2, 4, 7], [0, 2, 4, 7], [0, 7]), [1, 2, 3])

    def test_it_follows_what_is_filled(self):
        self.last([*BUILT, fill(4)], ways(7, [0, 2, 4, 7], [1, 3, 4, 7]), [2, 4])
        self.last([*BUILT, fill(2)], ways(7, [0, 2, 4, 7]), [1, 0, 5])


class WrongWaysTest(Asking):
    def test_it_begins_with_no_base(self):
        for way in ([2, 4, 7], [5, 7], [6, 7], [4, 2, 0, 5, 7], [7]):
            self.last(BUILT, ways(7, way), [1, 0, 1])

    def test_it_has_no_nodes(self):
        self.each(BUILT, [
            (ways(7, []), [1, 0, 1]),
            (ways(0, []), [1, 0, 1]),
            (ways(7, [1, 7], []), [1, 1, 1]),
            (ways_row(7, *[0] * 1000), [1, 0, 1]),
        ])

    def test_it_does_not_end_with_the_goal(self):
        for way in ([0], [0, 2, 4], [1, 7, 4], [0, 5]):
            self.last(BUILT, ways(7, way), [1, 0, 2])

    def test_two_are_not_joined(self):
        for way in ([0, 7], [0, 2, 7], [0, 4, 7], [1, 3, 5, 7]):
            self.last(BUILT, ways(7, way), [1, 0, 3])
        self.last([*BUILT, unline(7)], ways(7, [0, 5, 7]), [1, 0, 3])

    def test_no_node_is_joined_with_itself(self):
        self.last(BUILT, ways(7, [0, 5, 5, 7]), [1, 0, 3])
        self.last(BUILT, ways(0, [0, 0]), [1, 0, 3])

    def test_a_node_is_there_twice(self):
        for way in ([0, 2, 5, 2, 4, 7], [0, 5, 2, 0, 5, 7], [1, 7, 4, 7], [0, 5, 0, 5, 7]):
            self.last(BUILT, ways(7, way), [1, 0, 4])

    def test_a_shut_stop_or_a_base_between_the_ends(self):
        for way in ([0, 6, 7], [0, 1, 7], [0, 1, 3, 4, 7], [1, 0, 5, 7]):
            self.last(BUILT, ways(7, way), [1, 0, 5])

    def test_of_two_faults_the_least(self):
        two = {
            (2, 4): 1, (2, 7): 1, (2, 5, 2, 4, 7): 1, (5, 0, 2, 4, 7): 1,
            (0, 4): 2, (0, 2, 0): 2, (0, 1, 3): 2,
            (0, 2, 0, 7): 3, (0, 6, 4, 7): 3, (0, 1, 5, 7): 3,
            (0, 6, 0, 5, 7): 4, (0, 1, 0, 5, 7): 4,
        }
        for way, wrong in two.items():
            self.last(BUILT, ways(7, list(way)), [1, 0, wrong])

    def test_of_two_wrong_ways_the_first(self):
        right = [1, 7]
        self.last(BUILT, ways(7, right, [0, 6, 7], right, [2, 4, 7]), [1, 1, 5])
        self.last(BUILT, ways(7, right, right, [2, 4, 7], [0, 6, 7]), [1, 2, 1])
        self.last(BUILT, ways(7, [0, 7], []), [1, 0, 3])

    def test_a_number_that_is_no_nodes(self):
        for number in (8, 24, HIGHEST):
            self.each(BUILT, [
                (ways(7, [number]), [1, 0, 1]),
                (ways(7, [number, 7]), [1, 0, 1]),
                (ways(7, [0, number]), [1, 0, 2]),
                (ways(7, [0, number, 7]), [1, 0, 3]),
                (ways(7, [0, number, number, 7]), [1, 0, 3]),
                (ways(7, [1, 7], [0, 5, number, 7]), [1, 1, 3]),
            ])


class RefusalsTest(Asking):
    def test_no_such_goal(self):
        for wrong in (-1, 8, 24, -8, LOWEST, HIGHEST):
            self.refused(BUILT, ways(wrong), -1)
            self.refused(BUILT, ways(wrong, [0, wrong]), -1)
        self.refused([], ways(0), -1)

    def test_a_count_below_0(self):
        for wrong in (-1, -2, LOWEST):
            self.refused(BUILT, ways_row(7, wrong), -8)
            self.refused(BUILT, ways_row(7, wrong, 1, 7), -8)
            self.refused(BUILT, ways_row(7, 2, 1, 7, wrong), -8)

    def test_a_node_below_0(self):
        for wrong in (-1, -2, -8, LOWEST):
            self.refused(BUILT, ways(7, [wrong]), -8)
            self.refused(BUILT, ways(7, [0, wrong, 7]), -8)
            self.refused(BUILT, ways(7, [1, 7], [1, wrong]), -8)

    def test_the_row_ends_too_early(self):
        for row in ([1], [2, 1], [3, 1, 7], [2, 1, 7, 1], [2, 1, 7, 4, 0, 2, 4], [0, 1], [HIGHEST], [HIGHEST, 1, 7]):
            self.refused(BUILT, ways_row(7, *row), -8)

    def test_no_such_goal_is_told_ahead_of_the_row(self):
        for row in ([-1], [1, -1], [3, 1]):
            self.refused(BUILT, ways_row(8, *row), -1)

    def test_the_row_is_told_ahead_of_wrong_ways(self):
        self.refused(BUILT, ways_row(7, 0, 2, 0, 7, 1), -8)
        self.refused(BUILT, ways(7, [2], [1, -1]), -8)
        self.refused(BUILT, ways_row(7, 2, 0, 7, -1), -8)
        self.refused(BUILT, ways_row(7, *[4, 0, 2, 4, 7] * 2, 1), -8)

    def test_the_longest_row(self):
        self.last(BUILT, ways(7, *[[0, 5, 7]] * 250), [0, 250])
        self.last(BUILT, ways(7, *[[1, 7]] * 332, [0, 5, 7]), [0, 333])
        self.last(BUILT, ways(7, [0] * 999), [1, 0, 2])
        self.last(BUILT, ways(7, [0] * 998 + [7]), [1, 0, 3])
        self.last(BUILT, ways(7, [0, 5] * 499 + [7]), [1, 0, 4])
        self.refused(BUILT, ways_row(7, *[2, 1, 7] * 333, 1), -8)


class WordsTest(Asking):
    def test_every_way_to_every_goal(self):
        for goal in range(8):
            right = every_way(NODES, PAIRS, goal)
            self.assertNotEqual(right, [])
            self.each(BUILT, [(ways(goal, way), [0, 1]) for way in right])

    def test_ways_of_which_some_are_spoilt(self):
        chance = random.Random(14)
        counts = {0: 0, 1: 0, 2: 0}
        for goal in range(8):
            right = every_way(NODES, PAIRS, goal)
            told = []
            for count in range(100):
                some = [list(chance.choice(right)) for way in range(chance.randrange(1, 5))]
                if chance.randrange(2) == 1:
                    spoilt = chance.choice(some)
                    spoilt[chance.randrange(len(spoilt))] = chance.randrange(9)
                told.append(some)
            answered = ask(*BUILT, *[ways(goal, *some) for some in told])[len(BUILT):]
            for some, answer in zip(told, answered):
                self.assertEqual(answer, judged(NODES, PAIRS, goal, some), (goal, some))
                counts[answer[0]] += 1
        # The ways must be such that something is shown by them.
        self.assertGreater(min(counts.values()), 50)

    def test_no_more_ways_can_be_at_once_than_the_least_number(self):
        built = [BASE, stop(2), stop(1), stop(3), JOINT, *lines((0, 1), (0, 2), (1, 3), (2, 3), (3, 4))]
        self.last(built, least(4), [1, 3])
        self.last(built, ways(4, [0, 1, 3, 4], [0, 2, 3, 4], [0, 1, 3, 4]), [0, 3])
        for more in ([0, 1, 3, 4], [0, 2, 3, 4]):
            answer = ask(*built, ways(4, [0, 1, 3, 4], [0, 2, 3, 4], [0, 1, 3, 4], more))[-1]
            self.assertEqual(answer[0], 2)


if __name__ == "__main__":
    unittest.main()
