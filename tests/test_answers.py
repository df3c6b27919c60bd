"""The interface: how calls are told, and what is given back."""

import unittest

from formtablesyard.language import answers

# new (2, 2); group; group of 0; rule; rule; word of two stems; odd; plain; plain; drop; drop
LINE = [
    0, 3, 2, 2, 2, 0,
    1, 1, -1, 0,
    1, 1, 0, 0,
    2, 8, 0, 2, 2, -1, 1, 0, 1, 115, 0,
    2, 8, 1, 0, 2, 0, 0, 6, 1, 1, 0,
    2, 9, 1, 0, 2, 0, 0, 6, 2, 1, -1, 0,
    4, 8, 1, 2, 3, 97, 98, 99, 1, 100, 0,
    5, 7, 0, 2, 1, 1, 1, 1, 101, 0,
    5, 5, 0, 2, 0, 1, 0, 0,
    6, 4, 0, 2, 1, 1, 0,
    6, 4, 0, 2, 1, 1, 0,
    3, 1, 0, 0,
    3, 1, 1, 0,
]
ANSWERED = [1, 4, 1, 0, 1, 1, 1, 0, 1, -1, 1, 1, 1, 0, 1, 0, 1, 0, 1, 0, 1, -3, 1, 1, 1, -2]


class Answers(unittest.TestCase):
    def test_a_whole_line(self):
        self.assertEqual(answers(LINE), ANSWERED)

    def test_one_call(self):
        self.assertEqual(answers([0, 2, 1, 8, 0]), [1, 8])
        self.assertEqual(answers([0, 1, 0, 0]), [1, -1])
        self.assertEqual(answers([1, 1, -1, 0]), [1, -4])

    def test_what_is_handed_in_stays_as_it_is(self):
        handed = list(LINE)
        answers(handed)
        self.assertEqual(handed, LINE)

    def test_nothing_is_kept_from_one_time_to_the_next(self):
        handed = list(LINE)
        self.assertEqual(answers(handed), answers(handed))
        self.assertEqual(answers([1, 1, -1, 0]), [1, -4])
        self.assertEqual(answers(handed), ANSWERED)

    def test_what_is_given_back_is_a_list_of_whole_numbers(self):
        given = answers(LINE)
        self.assertIs(type(given), list)
        self.assertEqual({type(number) for number in given}, {int})
        given.append(1)
        self.assertEqual(answers(LINE), ANSWERED)

    def test_two_hundred_calls_and_a_long_list(self):
        stem = [100, *[7] * 100]
        long_word = [4, 2 + 101 * 100, 0, 100, *stem * 100, 0]
        line = [0, 2, 1, 2, 0, 1, 1, -1, 0, *long_word, *long_word, *[1, 1, 0, 0] * 196]
        self.assertLess(len(line), 30000)
        expected = [2, 0, -1, -1, *range(1, 16), *[-5] * 181]
        self.assertEqual(answers(line), [number for one in expected for number in (1, one)])


if __name__ == "__main__":
    unittest.main()
