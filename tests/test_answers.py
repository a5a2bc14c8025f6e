"""The interface: one list of calls in, one list of answers out."""

import unittest

from shutoff.board import answers

CALLS = [
    0, 1, 0, 1,
    0, 1, 3, 0,
    0, 0, 0, 0,
    1, 0, 1,
    1, 1, 2,
    1, 2, 1,
    2, 2, 1, 0,
    7,
    8, 1, 1,
    6, 1,
    5,
    8, 0,
    9, 2,
    10, 2,
    11, 2,
    12, 2,
    13, 2, 1, 1,
    13, 2, 0,
    14, 2, 4, 3, 0, 1, 2,
    14, 2, 0,
    14, 2, 2, 3, 0,
    15, 2,
    16,
    17,
    9, 3,
    3, 0,
    7,
    4,
    5,
]
TOLD = [
    1, 0,
    1, 1,
    1, 2,
    1, 0,
    1, 1,
    1, -7,
    1, -3,
    4, 3, 0, 1, 2,
    3, 2, 0, 1,
    1, 2,
    15, 3, 1, 0, 1, 1, 2, 0, 0, 0, 0, 2, 0, 1, 1, 2,
    4, 3, 0, 1, 2,
    2, 1, 2,
    2, 1, 1,
    2, 1, 1,
    2, 1, 1,
    2, 1, 2,
    2, 0, 0,
    2, 0, 1,
    2, 0, 0,
    1, -8,
    3, 2, 0, 1,
    5, 2, 0, 0, 1, 0,
    1, 0,
    1, -1,
    1, 0,
    2, 1, 0,
    1, 0,
    2, 0, 0,
]


class AnswersTest(unittest.TestCase):
    def test_one_behind_another_with_their_counts(self):
        self.assertEqual(answers(CALLS), TOLD)

    def test_list_handed_in_is_the_same_afterwards(self):
        handed_in = list(CALLS)
        answers(handed_in)
        self.assertEqual(handed_in, CALLS)

    def test_a_second_time_gives_the_same(self):
        self.assertEqual(answers(CALLS), answers(CALLS))

    def test_nothing_is_kept_from_one_time_to_the_next(self):
        answers([0, 1, 0, 1, 0, 0, 0, 0, 1, 0, 1])
        self.assertEqual(answers([5]), [2, 0, 0])
        self.assertEqual(answers([7]), [1, 0])
        self.assertEqual(answers([1, 0, 1]), [1, -1])

    def test_what_was_given_back_is_no_part_of_the_next(self):
        given = answers(CALLS)
        given.clear()
        self.assertEqual(answers(CALLS), TOLD)

    def test_any_call_may_come_first(self):
        firsts = {
            (0, 1, 4, 0): [1, 0],
            (1, 0, 1): [1, -1],
            (2, 0, 0, 0): [1, -1],
            (3, 0): [1, -5],
            (4,): [1, 0],
            (5,): [2, 0, 0],
            (6, 0): [1, -1],
            (7,): [1, 0],
            (8, 0): [1, 0],
            (8, 2, 0, 0): [1, -1],
            (9, 0): [1, -1],
            (10, 0): [1, -1],
            (11, 0): [1, -1],
            (12, 0): [1, -1],
            (13, 0, 0): [1, -1],
            (13, 0, 1, 0): [1, -1],
            (14, 0, 0): [1, -1],
            (14, 0, 2, 1, 0): [1, -1],
            (15, 0): [1, -1],
            (16,): [1, 0],
            (17,): [1, 0],
        }
        for call, told in firsts.items():
            self.assertEqual(answers(list(call)), told, call)

    def test_a_number_that_is_no_calls(self):
        for wrong in (-1, -9, 18, 2147483647, -2147483648):
            with self.assertRaises(KeyError):
                answers([5, wrong, 0, 0, 0])

    def test_400_calls(self):
        self.assertEqual(answers([7] * 400), [1, 0] * 400)
        self.assertEqual(answers([0, 0, 0, 0] * 400)[-4:], [1, -4, 1, -4])

    def test_a_list_nearly_as_long_as_may_be(self):
        row = [8, 1000] + [0] * 1000
        self.assertEqual(answers([0, 1, 1, 0] + row * 29), [1, 0] + [1, -6] * 29)
        ways = [14, 0, 1000] + [1, 0] * 500
        self.assertEqual(answers([0, 1, 0, 1] + ways * 29), [1, 0] + [2, 0, 500] * 29)


if __name__ == "__main__":
    unittest.main()
