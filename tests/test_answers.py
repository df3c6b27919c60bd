"""The interface: how calls are told, and what is given back."""

import contextlib
import io
import unittest

from formtablesyard.language import answers

# new (2, 2); group; group of 0; rule; rule; word of two stems; odd; plain; plain; drop; drop
LINE = [
    0, 3, 2, 2, 2, 0,
    1, 1, -1, 0,
    1, 1, 0, 0,
    2, 8, 0, 2, 2, -1, 1, 0, 1, 115, 0,
    2, 8, 1, 0, 2, 0, 0, 6, 1, 1, 0,
    2, 9, 1, 0, 2, 0, 0, 6, 2, 1, -1, 0,
    4, 8, 1, 2, 3, 97, 98, 99, 1, 100, 0,
    5, 7, 0, 2, 1, 1, 1, 1, 101, 0,
    5, 5, 0, 2, 0, 1, 0, 0,
    6, 4, 0, 2, 1, 1, 0,
    6, 4, 0, 2, 1, 1, 0,
    3, 1, 0, 0,
    3, 1, 1, 0,
]
ANSWERED = [1, 4, 1, 0, 1, 1, 1, 0, 1, -1, 1, 1, 1, 0, 1, 0, 1, 0, 1, 0, 1, -3, 1, 1, 1, -2]

# new (2, 2); group; group of 0; rules 0 to 3; word; odd; form, form, form; table; why, why; alike; find; may; parts
ASKING_LINE = [
    0, 3, 2, 2, 2, 0,
    1, 1, -1, 0,
    1, 1, 0, 0,
    2, 8, 0, 2, 2, -1, 1, 0, 1, 115, 0,
    2, 9, 1, 0, 2, 1, -1, 6, 2, 0, -1, 0,
    2, 6, 0, 0, 2, 1, 1, 7, 0,
    2, 9, 1, 0, 2, 0, 0, 6, 2, -1, -1, 0,
    4, 5, 1, 1, 2, 97, 98, 0,
    5, 6, 0, 2, 0, 1, 1, 0, 0,
    7, 4, 0, 2, 0, 1, 0,
    7, 4, 0, 2, 0, 0, 0,
    7, 4, 0, 2, 1, 1, 0,
    6, 4, 0, 2, 0, 1, 0,
    7, 4, 0, 2, 0, 1, 0,
    8, 1, 0, 0,
    9, 4, 0, 2, 0, 1, 0,
    9, 4, 0, 2, 1, 0, 0,
    10, 1, 0, 0,
    11, 4, 3, 97, 98, 115, 0,
    12, 10, 1, 1, 97, 1, 2, 0, 1, 2, 97, 115, 0,
    13, 3, 1, 1, 97, 0,
]
ASKING_ANSWERED = [
    1, 4, 1, 0, 1, 1, 1, 0, 1, 1, 1, 2, 1, 3, 1, 0, 1, 0,
    1, 1,
    1, 2,
    1, 0,
    1, 0,
    4, 1, 97, 98, 115,
    9, 4, 2, 1, 3, 97, 98, 115, 2, 0,
    2, 2, 0,
    6, 3, 1, 3, 3, 3, 3,
    5, 3, 0, 1, 0, 3,
    3, 1, 0, 1,
    3, 2, 0, 1,
    2, 1, 0,
]


def refuse(self, *told):
    raise AssertionError("the list that was handed in was to be changed")


class Unchanging(list):
    """A list that lets nothing in it be changed."""

    append = extend = insert = pop = remove = clear = reverse = sort = refuse
    __setitem__ = __delitem__ = __iadd__ = __imul__ = refuse


class Answers(unittest.TestCase):
    def test_a_whole_line(self):
        self.assertEqual(answers(LINE), ANSWERED)
        self.assertEqual(answers(ASKING_LINE), ASKING_ANSWERED)

    def test_one_call(self):
        self.assertEqual(answers([0, 2, 1, 8, 0]), [1, 8])
        self.assertEqual(answers([0, 1, 0, 0]), [1, -1])
        self.assertEqual(answers([1, 1, -1, 0]), [1, -4])

    def test_what_is_handed_in_stays_as_it_is(self):
        for line in (LINE, ASKING_LINE):
            handed = list(line)
            answers(handed)
            self.assertEqual(handed, line)

    def test_what_is_handed_in_is_not_changed_for_a_while_either(self):
        for line, answered in ((LINE, ANSWERED), (ASKING_LINE, ASKING_ANSWERED)):
            self.assertEqual(answers(Unchanging(line)), answered)

    def test_nothing_is_kept_from_one_time_to_the_next(self):
        handed = list(LINE)
        self.assertEqual(answers(handed), answers(handed))
        self.assertEqual(answers([1, 1, -1, 0]), [1, -4])
        self.assertEqual(answers(handed), ANSWERED)
        handed = list(ASKING_LINE)
        self.assertEqual(answers(handed), answers(handed))
        self.assertEqual(answers([8, 1, 0, 0]), [1, -4])
        self.assertEqual(answers(handed), ASKING_ANSWERED)

    def test_what_is_given_back_is_a_list_of_whole_numbers(self):
        for line, answered in ((LINE, ANSWERED), (ASKING_LINE, ASKING_ANSWERED)):
            given = answers(line)
            self.assertIs(type(given), list)
            self.assertEqual({type(number) for number in given}, {int})
            given.append(1)
            self.assertEqual(answers(line), answered)

    def test_nothing_is_printed(self):
        for line in (LINE, ASKING_LINE):
            shown = io.StringIO()
            with contextlib.redirect_stdout(shown), contextlib.redirect_stderr(shown):
                answers(line)
            self.assertEqual(shown.getvalue(), "")

    def test_two_hundred_calls_and_a_long_list(self):
        stem = [100, *[7] * 100]
        long_word = [4, 2 + 101 * 100, 0, 100, *stem * 100, 0]
        line = [0, 2, 1, 2, 0, 1, 1, -1, 0, *long_word, *long_word, *[1, 1, 0, 0] * 196]
        self.assertLess(len(line), 30000)
        expected = [2, 0, -1, -1, *range(1, 16), *[-5] * 181]
        self.assertEqual(answers(line), [number for one in expected for number in (1, one)])


if __name__ == "__main__":
    unittest.main()
