"""The call 15 needed."""

import itertools
import random
import unittest

from tests.asking import BASE, HIGHEST, JOINT, LOWEST, SHUT
from tests.asking import Asking, ask, fill, line, lines, needed, node, stop, unline
from tests.words import every_way, needed_of

# 0 base - 1 stop - 2 joint, from there over 3 or 4 to 5 stop - 6 shut; 7 stop alone
ONE_BASE = [BASE, stop(2), JOINT, stop(1), JOINT, stop(4), SHUT, stop(1)]
ONE_BASE += lines((0, 1), (1, 2), (2, 3), (2, 4), (3, 5), (4, 5), (5, 6))


class NeededTest(Asking):
    def test_one_base(self):
        self.each(ONE_BASE, [
            (needed(1), [1, 0]),
            (needed(2), [2, 0, 1]),
            (needed(3), [3, 0, 1, 2]),
            (needed(4), [3, 0, 1, 2]),
            (needed(5), [3, 0, 1, 2]),
            (needed(6), [4, 0, 1, 2, 5]),
        ])

    def test_a_goal_that_is_not_reached(self):
        self.each(ONE_BASE, [(needed(7), [0])])
        self.each([*ONE_BASE, fill(1), fill(1)], [(needed(2), [0]), (needed(6), [0]), (needed(1), [1, 0])])
        self.last([stop(1), JOINT, line(0, 1)], needed(1), [0])

    def test_a_goal_with_a_base(self):
        self.last(ONE_BASE, needed(0), [0])
        self.last([BASE, stop(1), node(1, 2, 1), *lines((0, 1), (1, 2))], needed(2), [0])

    def test_several_bases_of_which_none_is_needed(self):
        built = [BASE, node(1, 4, 1), stop(1), JOINT, stop(1), *lines((0, 2), (1, 2), (2, 3), (3, 4))]
        self.each(built, [(needed(2), [0]), (needed(3), [1, 2]), (needed(4), [2, 2, 3])])

    def test_several_bases_of_which_one_is_needed(self):
        built = [stop(1), BASE, BASE, stop(1), JOINT, *lines((1, 2), (2, 3), (3, 4), (1, 0))]
        self.each(built, [(needed(4), [2, 2, 3]), (needed(3), [1, 2]), (needed(0), [1, 1])])

    def test_by_rising_numbers_whatever_the_order_on_the_way(self):
        self.last([JOINT, stop(1), SHUT, BASE, *lines((3, 0), (0, 1), (1, 2))], needed(2), [3, 0, 1, 3])

    def test_a_shut_stop_is_not_needed(self):
        self.last([BASE, SHUT, JOINT, *lines((0, 1), (1, 2), (0, 2))], needed(2), [1, 0])

    def test_it_follows_the_lines(self):
        self.last([*ONE_BASE, line(0, 5)], needed(6), [2, 0, 5])
        self.last([*ONE_BASE, unline(4)], needed(5), [4, 0, 1, 2, 4])

    def test_no_such_goal(self):
        for wrong in (-1, 8, 24, -8, LOWEST, HIGHEST):
            self.refused(ONE_BASE, needed(wrong), -1)
        self.refused([], needed(0), -1)

    def test_small_graphs_against_the_words(self):
        chance = random.Random(15)
        every_pair = list(itertools.combinations(range(6), 2))
        some_needed = 0
        for graph in range(300):
            kinds = [chance.choice((JOINT, stop(1), stop(3), SHUT, BASE, node(1, 1, 1), JOINT)) for number in range(6)]
            pairs = chance.sample(every_pair, chance.randrange(4, 10))
            told = ask(*kinds, *lines(*pairs), *[needed(goal) for goal in range(6)])[-6:]
            for goal in range(6):
                wanted = needed_of(kinds, pairs, goal)
                self.assertEqual(told[goal], [len(wanted), *wanted], (kinds, pairs, goal))
                ways = every_way(kinds, pairs, goal)
                on_all = [number for number in range(6) if ways and all(number in way for way in ways)]
                self.assertEqual(wanted, [number for number in on_all if number != goal])
                some_needed += wanted != []
        # The graphs must be such that something is shown by them.
        self.assertGreater(some_needed, 100)


if __name__ == "__main__":
    unittest.main()
