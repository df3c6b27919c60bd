"""The refusals of the calls that ask: each of them, which goes first, and that nothing is changed."""

import unittest

from formtablesyard.language import answers

from tests.calls import (
    alike, drop, find, flat, form, group, may, new, odd, parts, plain, rule, split, table, told_back, why, word,
)

MOST = 4294967295
NO_CELLS = ([], [0], [0, 0, 0], [2, 0], [0, 3], [MOST, 0], [0, MOST], [0] * 100)
CALLS = [
    new(2, 3), group(), group(0), rule(0, 2, [1, -1], 0, 1, 8), rule(1, 0, [-1, 2], 7), word(1, [1]), word(0, [2]),
    odd(1, [0, 0], [3]),
]
# One of each call, with something wrong in it wherever there can be.
WRONG = [form(7, [9]), table(7), why(7, [9]), alike(7), find([1]), may([], ([9], [])), parts()]
ALL_ASKED = [
    *[ask(number, [k, n]) for ask in (form, why) for number in (0, 1) for k in (0, 1) for n in (0, 1, 2)],
    *[ask(number) for ask in (table, alike) for number in (0, 1)],
    find([1]), find([2, 8]), find([3]), may([[1]], ([1, 1], [1, 8])), parts([1]), *WRONG,
]


class Refusals(unittest.TestCase):
    def test_no_features_yet(self):
        right = [form(0, [0]), table(0), why(0, [0]), alike(0), find([]), may([[1]]), parts([1])]
        for one in [*right, *WRONG]:
            self.assertEqual(answers(one), [1, -4])
        # A refused new leaves it so.
        self.assertEqual(told_back([new(9)], [*right, *WRONG]), [[-4]] * 14)

    def test_no_such_word(self):
        for ask in (table, alike, lambda number: form(number, [0, 0]), lambda number: why(number, [0, 0])):
            self.assertEqual(told_back(CALLS, [ask(2), ask(MOST)]), [[-2], [-2]])
            self.assertNotEqual(told_back(CALLS, [ask(1)]), [[-2]])
            self.assertEqual(told_back([new(2, 3), group()], [ask(0)]), [[-2]])
            self.assertEqual(told_back([*CALLS, new(2, 3)], [ask(0)]), [[-2]])

    def test_no_cell(self):
        for cell in NO_CELLS:
            self.assertEqual(told_back(CALLS, [form(0, cell), why(0, cell)]), [[-1], [-1]])

    def test_the_last_cell(self):
        self.assertEqual(told_back(CALLS, [form(1, [1, 2]), why(1, [1, 2])]), [[1, 2, 8], [2, 0]])

    def test_no_such_word_goes_ahead_of_no_cell(self):
        for cell in NO_CELLS:
            self.assertEqual(told_back(CALLS, [form(2, cell), why(2, cell)]), [[-2], [-2]])

    def test_stems_and_cells_that_are_both_wrong(self):
        self.assertEqual(told_back(CALLS, [may([], ([9], [])), may([[1] * 33], ([0, 3], [1]))]), [[-1], [-1]])

    def test_find_is_never_refused(self):
        self.assertEqual(told_back(CALLS, [find([]), find([255] * 100)]), [[0], [0]])

    def test_nothing_is_changed(self):
        # What the changing calls answer, and what is asked in the end, is as if nothing had been asked between.
        changing = [
            *CALLS, rule(0, 3, [0, -1], 0, 1, 9), word(0, [4]), odd(0, [1, 1], None), plain(1, [0, 0]), drop(0),
            plain(1, [0, 0]), group(1), rule(2, 1, [-1, 0], 5, 2),
        ]
        quiet = split(answers(flat([*changing, *ALL_ASKED])))
        line = []
        places = []
        for one in changing:
            places.append(len(line))
            line += [one, *ALL_ASKED]
        given = split(answers(flat(line)))
        self.assertEqual([given[place] for place in places], quiet[:len(changing)])
        self.assertEqual(given[-len(ALL_ASKED):], quiet[-len(ALL_ASKED):])

    def test_asked_twice(self):
        given = told_back(CALLS, [*ALL_ASKED, *ALL_ASKED])
        self.assertEqual(given[:len(ALL_ASKED)], given[len(ALL_ASKED):])

    def test_after_new(self):
        calls = [*CALLS, new(2), group(), word(0, [5])]
        asked = [table(0), alike(0), find([1]), find([5]), form(0, [1]), why(0, [1]), may([[1]]), parts([1])]
        given = [[2, 1, 1, 5, 1, 1, 5], [1, 0, 0], [0], [2, 0, 0, 0, 1], [1, 5], [2], [1, 0], [0]]
        self.assertEqual(told_back(calls, asked), given)

    def test_after_a_refused_new(self):
        asked = [table(0), alike(0), find([1])]
        self.assertEqual(told_back([*CALLS, new(0)], asked), told_back(CALLS, asked))


if __name__ == "__main__":
    unittest.main()
