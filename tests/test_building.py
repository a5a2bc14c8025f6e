"""The calls that build: 0 node, 1 line, 2 set, 3 unline, 4 clear, 5 graph, 6 fill."""

import unittest

from tests.asking import CLEAR, GRAPH, HIGHEST, JOINT, LOWEST, REACH
from tests.asking import Asking, ask, fill, line, lines, node, set_stop, unline

# A joint, a shut stop, two stops that are open to strangers, a base with free places and one without.
SIX = [JOINT, node(1, 0, 0), node(1, 2, 0), node(1, 4, 0), node(1, 3, 1), node(1, 0, 1)]
SIX_TOLD = [6, 0, 0, 0, 1, 0, 0, 1, 2, 0, 1, 4, 0, 1, 3, 1, 1, 0, 1]
NO_NODES = [-1, 6, 24, -6, -7, LOWEST, HIGHEST]

PAIRS_48 = [(a, b) for a in range(24) for b in range(a + 1, 24)][:48]
FULL_OF_NODES = [node(1, 1, 0)] * 24
FULL_OF_LINES = FULL_OF_NODES + lines(*PAIRS_48)


class NodeTest(Asking):
    def test_numbers_in_order(self):
        self.assertEqual(ask(*SIX), [[0], [1], [2], [3], [4], [5]])

    def test_every_right_node_is_kept_as_told(self):
        for free in range(5):
            for base in (0, 1):
                self.assertEqual(ask(node(1, free, base), GRAPH), [[0], [1, 1, free, base, 0]])
        self.assertEqual(ask(JOINT, GRAPH), [[0], [1, 0, 0, 0, 0]])

    def test_numbers_out_of_range(self):
        for wrong in (-1, 2, LOWEST, HIGHEST):
            self.refused(SIX, node(wrong, 0, 0), -2)
            self.refused(SIX, node(1, 0, wrong), -2)
            self.refused(SIX, node(0, 0, wrong), -2)
        for wrong in (-1, 5, LOWEST, HIGHEST):
            self.refused(SIX, node(1, wrong, 0), -2)
            self.refused(SIX, node(1, wrong, 1), -2)
            self.refused(SIX, node(0, wrong, 0), -2)

    def test_joint_with_free_places_or_a_base(self):
        for free in range(1, 5):
            self.refused(SIX, node(0, free, 0), -2)
        self.refused(SIX, node(0, 0, 1), -2)
        self.refused(SIX, node(0, 1, 1), -2)

    def test_a_refused_node_takes_no_number(self):
        self.assertEqual(ask(JOINT, node(0, 1, 0), node(1, 5, 0), JOINT), [[0], [-2], [-2], [1]])

    def test_24_nodes_and_one_more(self):
        told = ask(*FULL_OF_NODES)
        self.assertEqual(told, [[number] for number in range(24)])
        for more in (JOINT, node(1, 4, 0), node(1, 0, 1)):
            self.refused(FULL_OF_NODES, more, -4)

    def test_wrong_numbers_are_told_ahead_of_24_nodes(self):
        for wrong in (node(2, 0, 0), node(1, 5, 0), node(1, 0, 2), node(0, 1, 0), node(0, 0, 1)):
            self.refused(FULL_OF_NODES, wrong, -2)


class LineTest(Asking):
    def test_numbers_in_order(self):
        told = ask(*SIX, *lines((0, 1), (5, 0), (3, 2)))
        self.assertEqual(told[-3:], [[0], [1], [2]])

    def test_first_and_last_node_can_be_joined(self):
        self.last(FULL_OF_NODES, line(23, 0), [0])

    def test_no_such_node(self):
        for wrong in NO_NODES:
            self.refused(SIX, line(wrong, 0), -1)
            self.refused(SIX, line(0, wrong), -1)
        self.refused([], line(0, 1), -1)
        self.refused(FULL_OF_NODES, line(0, 24), -1)

    def test_a_is_b(self):
        for number in range(6):
            self.refused(SIX, line(number, number), -2)

    def test_no_such_node_is_told_ahead_of_a_is_b(self):
        for wrong in NO_NODES:
            self.refused(SIX, line(wrong, wrong), -1)

    def test_joined_already_either_way_round(self):
        built = SIX + lines((2, 3), (4, 5))
        self.refused(built, line(2, 3), -7)
        self.refused(built, line(3, 2), -7)
        self.refused(built, line(5, 4), -7)
        self.last(built, line(3, 4), [2])

    def test_48_lines_and_one_more(self):
        told = ask(*FULL_OF_LINES)
        self.assertEqual(told[24:], [[number] for number in range(48)])
        self.refused(FULL_OF_LINES, line(22, 23), -4)

    def test_other_refusals_are_told_ahead_of_48_lines(self):
        self.refused(FULL_OF_LINES, line(22, 24), -1)
        self.refused(FULL_OF_LINES, line(-1, 22), -1)
        self.refused(FULL_OF_LINES, line(23, 23), -2)
        self.refused(FULL_OF_LINES, line(0, 1), -7)
        self.refused(FULL_OF_LINES, line(1, 0), -7)


class SetTest(Asking):
    def test_every_stop_takes_every_right_number(self):
        for number in range(1, 6):
            for free in range(5):
                for base in (0, 1):
                    told = ask(*SIX, set_stop(number, free, base), GRAPH)
                    wanted = list(SIX_TOLD)
                    wanted[1 + 3 * number:4 + 3 * number] = [1, free, base]
                    self.assertEqual(told[-2:], [[0], wanted + [0]])

    def test_reach_follows_a_base_given_and_taken(self):
        built = [node(1, 1, 0), node(1, 1, 0), line(0, 1)]
        told = ask(*built, REACH, set_stop(1, 0, 1), REACH, set_stop(1, 0, 0), REACH)
        self.assertEqual(told[3:], [[0], [0], [2, 0, 1], [0], [0]])

    def test_no_such_node(self):
        for wrong in NO_NODES:
            self.refused(SIX, set_stop(wrong, 0, 0), -1)
        self.refused([], set_stop(0, 0, 0), -1)

    def test_numbers_out_of_range(self):
        for wrong in (-1, 5, LOWEST, HIGHEST):
            self.refused(SIX, set_stop(2, wrong, 0), -2)
        for wrong in (-1, 2, LOWEST, HIGHEST):
            self.refused(SIX, set_stop(2, 0, wrong), -2)
        self.refused(SIX, set_stop(2, 5, 2), -2)

    def test_joint(self):
        self.refused(SIX, set_stop(0, 0, 0), -3)
        self.refused(SIX, set_stop(0, 4, 0), -3)
        self.refused(SIX, set_stop(0, 0, 1), -3)

    def test_order_of_refusals(self):
        self.refused(SIX, set_stop(6, 5, 0), -1)
        self.refused(SIX, set_stop(-6, 0, 2), -1)
        self.refused(SIX, set_stop(0, 5, 0), -2)
        self.refused(SIX, set_stop(0, -1, 0), -2)
        self.refused(SIX, set_stop(0, 0, 2), -2)


class UnlineTest(Asking):
    BUILT = SIX + lines((0, 1), (2, 1), (2, 3), (4, 3), (4, 5))

    def check_left(self, number, left):
        told = ask(*self.BUILT, unline(number), GRAPH)
        self.assertEqual(told[-2:], [[0], SIX_TOLD + [4] + left])

    def test_first_middle_and_last(self):
        self.check_left(0, [2, 1, 2, 3, 4, 3, 4, 5])
        self.check_left(2, [0, 1, 2, 1, 4, 3, 4, 5])
        self.check_left(4, [0, 1, 2, 1, 2, 3, 4, 3])

    def test_those_behind_have_numbers_less_by_one(self):
        told = ask(*self.BUILT, unline(1), unline(1), unline(1), GRAPH, unline(2))
        self.assertEqual(told[-2:], [SIX_TOLD + [2, 0, 1, 4, 5], [-5]])

    def test_the_next_line_comes_last(self):
        told = ask(*self.BUILT, unline(0), line(1, 0), GRAPH)
        self.assertEqual(told[-2:], [[4], SIX_TOLD + [5, 2, 1, 2, 3, 4, 3, 4, 5, 1, 0]])

    def test_room_for_a_line_again(self):
        told = ask(*FULL_OF_LINES, unline(0), line(22, 23), line(0, 1))
        self.assertEqual(told[-3:], [[0], [47], [-4]])

    def test_reach_follows(self):
        told = ask(node(1, 0, 1), JOINT, line(0, 1), REACH, unline(0), REACH)
        self.assertEqual(told[3:], [[2, 0, 1], [0], [1, 0]])

    def test_no_such_line(self):
        for wrong in (-1, -5, 5, LOWEST, HIGHEST):
            self.refused(self.BUILT, unline(wrong), -5)
        for wrong in (-1, 0):
            self.refused(SIX, unline(wrong), -5)
            self.refused([], unline(wrong), -5)


class ClearTest(Asking):
    def test_at_the_beginning(self):
        self.assertEqual(ask(CLEAR, GRAPH), [[0], [0, 0]])

    def test_nothing_is_left(self):
        told = ask(*SIX, *lines((4, 3), (3, 2)), CLEAR, GRAPH, REACH)
        self.assertEqual(told[-3:], [[0], [0, 0], [0]])
        for call, refusal in ((line(0, 1), -1), (set_stop(0, 0, 0), -1), (fill(2), -1), (unline(0), -5)):
            self.refused([*SIX, line(4, 3), CLEAR], call, refusal)

    def test_numbers_begin_anew(self):
        told = ask(*SIX, line(4, 3), CLEAR, node(1, 1, 1), JOINT, line(1, 0), GRAPH, REACH)
        self.assertEqual(told[-5:], [[0], [1], [0], [2, 1, 1, 1, 0, 0, 0, 1, 1, 0], [2, 0, 1]])

    def test_room_after_it(self):
        told = ask(*FULL_OF_LINES, CLEAR, *FULL_OF_LINES)
        self.assertEqual(told[73:], told[:72])
        self.assertEqual(told[-1], [47])


class GraphTest(Asking):
    def test_at_the_beginning(self):
        self.assertEqual(ask(GRAPH), [[0, 0]])

    def test_nodes_without_lines(self):
        self.last(SIX, GRAPH, SIX_TOLD + [0])

    def test_lines_as_they_were_told(self):
        self.last(SIX + lines((5, 0), (0, 4), (3, 1)), GRAPH, SIX_TOLD + [3, 5, 0, 0, 4, 3, 1])

    def test_all_that_there_can_be(self):
        ends = [number for pair in PAIRS_48 for number in pair]
        self.last(FULL_OF_LINES, GRAPH, [24] + [1, 1, 0] * 24 + [48] + ends)


class FillTest(Asking):
    def test_one_place_at_a_time_down_to_none(self):
        told = ask(*SIX, *[fill(3)] * 5)
        self.assertEqual(told[-5:], [[3], [2], [1], [0], [-3]])

    def test_only_that_stop_changes(self):
        told = ask(*SIX, fill(3), GRAPH)
        self.assertEqual(told[-1], [6, 0, 0, 0, 1, 0, 0, 1, 2, 0, 1, 3, 0, 1, 3, 1, 1, 0, 1, 0])

    def test_once_more_after_the_last_place(self):
        self.refused([*SIX, fill(2), fill(2)], fill(2), -3)

    def test_a_stop_is_shut_only_by_its_last_place(self):
        built = [node(1, 0, 1), node(1, 2, 0), JOINT, *lines((0, 1), (1, 2))]
        told = ask(*built, fill(1), REACH, fill(1), REACH)
        self.assertEqual(told[-4:], [[1], [3, 0, 1, 2], [0], [2, 0, 1]])

    def test_not_open_to_strangers(self):
        for number in (0, 1, 4, 5):
            self.refused(SIX, fill(number), -3)

    def test_set_opens_it_and_a_base_closes_it(self):
        self.last([*SIX, set_stop(1, 1, 0)], fill(1), [0])
        self.refused([*SIX, set_stop(2, 2, 1)], fill(2), -3)

    def test_no_such_node(self):
        for wrong in NO_NODES + [-3, -4]:
            self.refused(SIX, fill(wrong), -1)
        self.refused([], fill(0), -1)


if __name__ == "__main__":
    unittest.main()
