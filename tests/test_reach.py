"""The calls 7 reach and 8 reach if."""

import itertools
import unittest

from tests.asking import BASE, CLEAR, GRAPH, HIGHEST, JOINT, LOWEST, REACH, SHUT
from tests.asking import Asking, ask, fill, line, lines, node, reach_if, set_stop
from tests.words import reached, subsets

KINDS = (JOINT, SHUT, node(1, 2, 0), node(1, 1, 1), BASE)


class ReachTest(Asking):
    def test_no_nodes(self):
        self.assertEqual(ask(REACH), [[0]])

    def test_nothing_without_a_base(self):
        self.last([JOINT, node(1, 4, 0), SHUT, *lines((0, 1), (1, 2))], REACH, [0])

    def test_bases_alone(self):
        self.last([JOINT, BASE, SHUT, node(1, 4, 1)], REACH, [2, 1, 3])

    def test_by_rising_numbers(self):
        built = [node(1, 1, 0), JOINT, BASE, node(1, 1, 0), JOINT, *lines((2, 4), (4, 0), (0, 3))]
        self.last(built, REACH, [4, 0, 2, 3, 4])

    def test_a_line_is_gone_along_both_ways(self):
        self.last([JOINT, BASE, JOINT, *lines((0, 1), (1, 2))], REACH, [3, 0, 1, 2])

    def test_a_shut_stop_is_reached_but_nothing_behind_it(self):
        built = [BASE, SHUT, JOINT, node(1, 4, 0), *lines((0, 1), (1, 2), (1, 3))]
        self.last(built, REACH, [2, 0, 1])

    def test_another_way_round_a_shut_stop(self):
        built = [BASE, SHUT, JOINT, JOINT, *lines((0, 1), (1, 2), (0, 3), (3, 2))]
        self.last(built, REACH, [4, 0, 1, 2, 3])

    def test_a_joint_is_never_shut(self):
        self.last([BASE, JOINT, JOINT, *lines((0, 1), (1, 2))], REACH, [3, 0, 1, 2])

    def test_a_base_without_free_places_is_not_shut(self):
        self.last([BASE, BASE, JOINT, *lines((0, 1), (1, 2))], REACH, [3, 0, 1, 2])

    def test_it_follows_clear(self):
        self.last([BASE, JOINT, line(0, 1), CLEAR, JOINT, JOINT], REACH, [0])

    def test_a_chain_of_all_nodes(self):
        chain = [JOINT] * 23 + [BASE] + lines(*[(number, number + 1) for number in range(23)])
        self.last(chain, REACH, [24] + list(range(24)))

    def test_all_small_graphs(self):
        every_pair = list(itertools.combinations(range(4), 2))
        for kinds in itertools.product(KINDS, repeat=4):
            calls = []
            wanted = []
            for pairs in subsets(every_pair):
                calls.append([CLEAR, *kinds, *lines(*pairs), REACH])
                wanted.append(reached(kinds, pairs))
            for start in range(0, 64, 16):
                self.check_batch(calls[start:start + 16], wanted[start:start + 16])

    def check_batch(self, batch, wanted):
        told = ask(*[call for calls in batch for call in calls])
        place = 0
        for calls, nodes in zip(batch, wanted):
            place += len(calls)
            self.assertEqual(told[place - 1], [len(nodes), *nodes], calls)


class ReachIfTest(Asking):
    # 0 base - 1 stop - 2 joint - 3 stop - 4 shut; 0 - 5 stop - 3; 6 base with free places - 5
    NODES = [BASE, node(1, 2, 0), JOINT, node(1, 1, 0), SHUT, node(1, 4, 0), node(1, 3, 1)]
    PAIRS = [(0, 1), (1, 2), (2, 3), (3, 4), (0, 5), (5, 3), (6, 5)]
    BUILT = NODES + lines(*PAIRS)

    def test_ordinary(self):
        self.last(self.BUILT, reach_if(1), [7, 0, 1, 2, 3, 4, 5, 6])
        self.last(self.BUILT, reach_if(3), [6, 0, 1, 2, 3, 5, 6])
        self.last(self.BUILT, reach_if(5, 1), [4, 0, 1, 5, 6])

    def test_filled_is_all_free_places(self):
        built = [BASE, node(1, 4, 0), JOINT, *lines((0, 1), (1, 2))]
        self.last(built, reach_if(1), [2, 0, 1])

    def test_row_of_no_numbers(self):
        self.last(self.BUILT, reach_if(), ask(*self.BUILT, REACH)[-1])
        self.assertEqual(ask(reach_if()), [[0]])

    def test_same_as_when_they_are_filled(self):
        for stops in subsets((1, 3, 5)):
            for order in itertools.permutations(stops):
                wanted = ask(*self.BUILT, *[set_stop(number, 0, 0) for number in stops], REACH)[-1]
                self.last(self.BUILT, reach_if(*order), wanted)
                by_the_words = reached(self.NODES, self.PAIRS, stops)
                self.assertEqual(wanted, [len(by_the_words), *by_the_words])

    def test_nothing_changes(self):
        for stops in subsets((1, 3, 5)):
            told = ask(*self.BUILT, GRAPH, REACH, reach_if(*stops), GRAPH, REACH, reach_if(*stops), fill(5))
            self.assertEqual(told[-7:-5], told[-4:-2])
            self.assertEqual(told[-5], told[-2])
            self.assertEqual(told[-1], [3])

    def test_no_such_node(self):
        for wrong in (-1, -2, -7, 7, 24, LOWEST, HIGHEST):
            self.refused(self.BUILT, reach_if(wrong), -1)
            self.refused(self.BUILT, reach_if(1, wrong, 3), -1)
        self.refused([], reach_if(0), -1)

    def test_not_open_to_strangers(self):
        for wrong in (0, 2, 4, 6):
            self.refused(self.BUILT, reach_if(wrong), -3)
            self.refused(self.BUILT, reach_if(1, 3, wrong), -3)
        self.refused([*self.BUILT, fill(3)], reach_if(3), -3)

    def test_there_twice(self):
        self.refused(self.BUILT, reach_if(1, 1), -6)
        self.refused(self.BUILT, reach_if(5, 3, 1, 5), -6)

    def test_order_of_refusals_whatever_the_order_in_the_row(self):
        for row in itertools.permutations((4, 7)):
            self.refused(self.BUILT, reach_if(*row), -1)
        for row in itertools.permutations((1, 1, 7)):
            self.refused(self.BUILT, reach_if(*row), -1)
        for row in itertools.permutations((1, 1, 4)):
            self.refused(self.BUILT, reach_if(*row), -3)
        for row in itertools.permutations((1, 1, 4, -1)):
            self.refused(self.BUILT, reach_if(*row), -1)
        self.refused(self.BUILT, reach_if(7, 7), -1)
        self.refused(self.BUILT, reach_if(4, 4), -3)

    def test_the_longest_row(self):
        self.refused(self.BUILT, reach_if(*[1] * 1000), -6)
        self.refused(self.BUILT, reach_if(*[1] * 999, 0), -3)
        self.refused(self.BUILT, reach_if(*[1] * 999, 7), -1)
        self.last([BASE] + [node(1, 1, 0)] * 23, reach_if(*range(23, 0, -1)), [1, 0])


if __name__ == "__main__":
    unittest.main()
