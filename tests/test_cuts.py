"""The call 13 cuts."""

import itertools
import unittest

from tests.asking import BASE, HIGHEST, JOINT, LOWEST, SHUT
from tests.asking import Asking, ask, cuts, fill, lines, node, reach_if, stop
from tests.words import price, reached, subsets

# 0 base - 1 stop of 3 - 2 stop of 1 - 3 stop of 2, 0 - 4 joint - 5 stop of 4 - 3, 3 - 6 shut; 7 alone; 8 base alone
NODES = [BASE, stop(3), stop(1), stop(2), JOINT, stop(4), SHUT, stop(1), node(1, 2, 1)]
PAIRS = [(0, 1), (1, 2), (2, 3), (0, 4), (4, 5), (5, 3), (3, 6)]
BUILT = NODES + lines(*PAIRS)


class CutsTest(Asking):
    def test_ordinary(self):
        self.each(BUILT, [
            (cuts(3, 2, 5), [1, 5]),
            (cuts(3, 5, 1), [1, 7]),
            (cuts(3, 1, 2, 5), [1, 8]),
            (cuts(3, 1, 2), [0, 4]),
            (cuts(3, 5), [0, 4]),
            (cuts(6, 3), [1, 2]),
            (cuts(6, 7), [0, 1]),
        ])

    def test_the_goal_in_the_row_is_not_filled_but_counts(self):
        self.each(BUILT, [
            (cuts(3, 3), [0, 2]),
            (cuts(3, 3, 2), [0, 3]),
            (cuts(3, 2, 3, 5), [1, 7]),
            (cuts(1, 1), [0, 3]),
            (cuts(7, 7), [1, 1]),
        ])

    def test_empty_row(self):
        for goal in range(9):
            self.last(BUILT, cuts(goal), [int(goal == 7), 0])

    def test_a_goal_that_is_not_reached(self):
        self.each(BUILT, [(cuts(7), [1, 0]), (cuts(7, 1), [1, 3])])

    def test_a_goal_that_is_always_reached(self):
        for goal in (0, 1, 4, 5, 8):
            self.last(BUILT, cuts(goal, *[number for number in (1, 2, 3, 5, 7)]), [0, 11])

    def test_the_free_places_are_those_that_are_left(self):
        self.last([*BUILT, fill(5), fill(3)], cuts(3, 2, 3, 5), [1, 5])
        self.last([*BUILT, fill(2)], cuts(3, 5), [1, 4])

    def test_every_row_and_goal(self):
        for goal in range(9):
            for stops in subsets((1, 2, 3, 5, 7)):
                filled = [number for number in stops if number != goal]
                shut_off = goal not in reached(NODES, PAIRS, filled)
                self.last(BUILT, cuts(goal, *reversed(stops)), [int(shut_off), price(NODES, stops)])

    def test_nothing_changes(self):
        self.assertEqual(ask(*BUILT, cuts(3, 2, 5), reach_if(), fill(5))[-2:], [[8, 0, 1, 2, 3, 4, 5, 6, 8], [3]])

    def test_no_such_goal(self):
        for wrong in (-1, 9, 24, -9, LOWEST, HIGHEST):
            self.refused(BUILT, cuts(wrong), -1)
            self.refused(BUILT, cuts(wrong, 1, 2), -1)
        self.refused([], cuts(0), -1)

    def test_no_such_goal_is_told_ahead_of_the_row(self):
        for row in ((4,), (1, 1), (9,), (0, 0)):
            self.refused(BUILT, cuts(9, *row), -1)

    def test_no_such_node_in_the_row(self):
        for wrong in (-1, 9, 24, -9, LOWEST, HIGHEST):
            self.refused(BUILT, cuts(3, wrong), -1)
            self.refused(BUILT, cuts(3, 1, wrong, 2), -1)

    def test_not_open_to_strangers(self):
        for wrong in (0, 4, 6, 8):
            self.refused(BUILT, cuts(3, wrong), -3)
            self.refused(BUILT, cuts(3, 1, 2, wrong), -3)
            self.refused(BUILT, cuts(wrong, wrong), -3)
        self.refused([*BUILT, fill(2)], cuts(3, 2), -3)

    def test_there_twice(self):
        self.refused(BUILT, cuts(3, 1, 1), -6)
        self.refused(BUILT, cuts(3, 3, 2, 3), -6)

    def test_order_of_refusals_whatever_the_order_in_the_row(self):
        for row in itertools.permutations((1, 1, 4, 9)):
            self.refused(BUILT, cuts(3, *row), -1)
        for row in itertools.permutations((4, 9)):
            self.refused(BUILT, cuts(3, *row), -1)
        for row in itertools.permutations((1, 1, -1)):
            self.refused(BUILT, cuts(3, *row), -1)
        for row in itertools.permutations((1, 1, 4)):
            self.refused(BUILT, cuts(3, *row), -3)
        self.refused(BUILT, cuts(3, 9, 9), -1)
        self.refused(BUILT, cuts(3, 4, 4), -3)

    def test_the_longest_row(self):
        self.refused(BUILT, cuts(3, *[1] * 1000), -6)
        self.refused(BUILT, cuts(3, *[1] * 999, 6), -3)
        self.refused(BUILT, cuts(3, *[1] * 999, 9), -1)
        self.last([BASE] + [stop(4)] * 23, cuts(23, *range(23, 0, -1)), [1, 92])


if __name__ == "__main__":
    unittest.main()
