"""Calls as short lists for tests, and their answers taken apart again."""

import unittest

from shutoff.board import answers

LOWEST = -2147483648
HIGHEST = 2147483647


def node(stop, free, base):
    return [0, stop, free, base]


def line(a, b):
    return [1, a, b]


def set_stop(number, free, base):
    return [2, number, free, base]


def unline(number):
    return [3, number]


def fill(number):
    return [6, number]


def reach_if(*stops):
    return [8, len(stops), *stops]


def least(goal):
    return [9, goal]


def tight(goal):
    return [10, goal]


def nearest(goal):
    return [11, goal]


def furthest(goal):
    return [12, goal]


def cuts(goal, *stops):
    return [13, goal, len(stops), *stops]


def ways_row(goal, *row):
    return [14, goal, len(row), *row]


def ways(goal, *told):
    """The call with each way told as a list of nodes."""
    return ways_row(goal, *[number for way in told for number in [len(way), *way]])


def needed(goal):
    return [15, goal]


CLEAR = [4]
GRAPH = [5]
REACH = [7]
ALL = [16]
WEAKEST = [17]
JOINT = node(0, 0, 0)
SHUT = node(1, 0, 0)
BASE = node(1, 0, 1)


def stop(free):
    """A stop that's open to strangers."""
    return node(1, free, 0)


def lines(*pairs):
    return [line(a, b) for a, b in pairs]


def taken_apart(told):
    apart = []
    place = 0
    while place < len(told):
        end = place + 1 + told[place]
        assert told[place] > 0 and end <= len(told), "a count doesn't fit what's told"
        apart.append(told[place + 1:end])
        place = end
    return apart


def ask(*calls):
    """One answer for each of the calls; what is handed in must come through unchanged."""
    handed_in = [number for call in calls for number in call]
    before = list(handed_in)
    told = answers(handed_in)
    assert isinstance(told, list), "answers gives back no list"
    assert all(type(number) is int for number in told), "an answer that is no whole number"
    assert handed_in == before, "the list handed in was changed"
    apart = taken_apart(told)
    assert len(apart) == len(calls), "not one answer for each call"
    return apart


class Asking(unittest.TestCase):
    def last(self, before, call, wanted):
        """The call, behind the others, answers what's wanted."""
        self.assertEqual(ask(*before, call)[-1], wanted, call)

    def each(self, before, wanted):
        """Each of the pairs of a call and its answer holds behind the others, and no such call changes anything."""
        calls = [call for call, answer in wanted]
        told = ask(*before, GRAPH, REACH, *calls, GRAPH, REACH, *calls)
        told = told[len(before):]
        half = len(calls) + 2
        for place, (call, answer) in enumerate(wanted):
            self.assertEqual(told[2 + place], answer, call)
        self.assertEqual(told[:half], told[half:])

    def refused(self, before, call, refusal):
        """The call, behind the others, is refused by this number alone, and nothing has changed."""
        told = ask(*before, GRAPH, REACH, call, GRAPH, REACH)
        self.assertEqual(told[-3], [refusal], call)
        self.assertEqual(told[-2:], told[-5:-3], call)
