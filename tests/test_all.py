"""The calls 16 all and 17 weakest."""

import random
import unittest

from tests.asking import ALL, BASE, JOINT, SHUT, WEAKEST
from tests.asking import Asking, ask, fill, least, lines, node, set_stop, stop
from tests.words import has_base, least_and_tight, reached

# 0 base - 1 stop of 3 - 2 joint - 3 stop of 2 - 4 stop of 2, 2 - 5 shut; 6 stop alone
BUILT = [BASE, stop(3), JOINT, stop(2), stop(2), SHUT, stop(1), *lines((0, 1), (1, 2), (2, 3), (3, 4), (2, 5))]


class AllTest(Asking):
    def test_ordinary(self):
        self.each(BUILT, [(ALL, [6, 0, 0, 1, 0, 3, 1, 3, 4, 1, 2, 5, 1, 3, 6, 1, 0])])

    def test_no_nodes_and_no_stops(self):
        self.each([], [(ALL, [0])])
        self.each([JOINT, JOINT, *lines((0, 1))], [(ALL, [0])])

    def test_stops_without_a_least_number(self):
        built = [BASE, node(1, 4, 1), stop(1), JOINT, stop(4), SHUT, *lines((0, 2), (1, 3), (3, 4), (3, 5))]
        self.each(built, [(ALL, [5, 0, 0, 1, 0, 2, 0, 4, 0, 5, 0])])

    def test_without_any_base(self):
        self.each([stop(1), SHUT, JOINT, *lines((0, 1), (1, 2))], [(ALL, [2, 0, 1, 0, 1, 1, 0])])

    def test_the_same_as_least_of_each(self):
        stops = (0, 1, 3, 4, 5, 6)
        told = ask(*BUILT, *[least(number) for number in stops], ALL)
        wanted = [len(stops)]
        for number, answer in zip(stops, told[-7:-1]):
            wanted += [number, *answer]
        self.assertEqual(told[-1], wanted)


class WeakestTest(Asking):
    def test_ordinary(self):
        self.each(BUILT, [(WEAKEST, [1, 4, 2])])

    def test_no_nodes_and_no_stops(self):
        self.each([], [(WEAKEST, [0])])
        self.each([JOINT, JOINT, *lines((0, 1))], [(WEAKEST, [0])])

    def test_of_several_the_smallest_number(self):
        self.each([*BUILT, fill(1)], [(WEAKEST, [1, 3, 2])])
        self.each([stop(4), stop(1), stop(2), BASE, *lines((3, 1), (1, 0), (1, 2))], [(WEAKEST, [1, 0, 1])])

    def test_a_stop_that_is_not_reached_is_passed_over(self):
        self.each([*BUILT, fill(3), fill(3)], [(WEAKEST, [1, 3, 3])])
        self.each([BASE, stop(1), SHUT, stop(1), *lines((2, 3))], [(WEAKEST, [0])])

    def test_a_shut_stop_may_be_the_weakest(self):
        self.each([*BUILT, set_stop(3, 4, 0), set_stop(4, 0, 1)], [(WEAKEST, [1, 5, 7])])
        self.each([BASE, stop(2), SHUT, *lines((0, 1), (1, 2))], [(WEAKEST, [1, 2, 2])])

    def test_stops_without_a_least_number(self):
        built = [BASE, node(1, 4, 1), stop(1), JOINT, stop(4), SHUT, *lines((0, 2), (1, 3), (3, 4), (3, 5))]
        self.each(built, [(WEAKEST, [0])])

    def test_without_any_base(self):
        self.each([stop(1), SHUT, JOINT, *lines((0, 1), (1, 2))], [(WEAKEST, [0])])

    def test_a_joint_is_not_the_weakest(self):
        self.each([BASE, stop(1), JOINT, *lines((0, 1), (1, 2))], [(WEAKEST, [0])])
        self.each([BASE, stop(1), JOINT, stop(1), *lines((0, 1), (1, 2), (2, 3))], [(WEAKEST, [1, 3, 1])])


class WordsTest(Asking):
    def test_small_graphs_against_the_words(self):
        chance = random.Random(16)
        some_weakest = ties = 0
        for graph in range(300):
            kinds = [BASE, *[chance.choice((JOINT, SHUT, stop(1), stop(2), stop(3), BASE)) for number in range(6)]]
            chance.shuffle(kinds)
            every_pair = [(a, b) for a in range(7) for b in range(a)]
            pairs = chance.sample(every_pair, chance.randrange(5, 9))
            told = ask(*kinds, *lines(*pairs), ALL, WEAKEST)[-2:]
            stops = [number for number in range(7) if kinds[number][1] == 1]
            numbers = {number: least_and_tight(kinds, pairs, number)[0] for number in stops}
            wanted = [len(stops)]
            for number in stops:
                wanted += [number, 0] if numbers[number] is None else [number, 1, numbers[number]]
            self.assertEqual(told[0], wanted, (kinds, pairs))
            weak = [number for number in stops if number in reached(kinds, pairs) and not has_base(kinds[number])]
            weak = sorted((numbers[number], number) for number in weak if numbers[number] is not None)
            self.assertEqual(told[1], [1, weak[0][1], weak[0][0]] if weak else [0], (kinds, pairs))
            some_weakest += len(weak) > 0
            ties += len(weak) > 1 and weak[0][0] == weak[1][0]
        # The graphs must be such that something is shown by them.
        self.assertGreater(some_weakest, 50)
        self.assertGreater(ties, 10)


if __name__ == "__main__":
    unittest.main()
