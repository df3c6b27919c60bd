"""parts: the fewest cells by which a word's class is known."""

import itertools
import unittest

from tests.calls import group, new, odd, parts, rule, table, told_back, word


def tables_told(cells, tables):
    """Calls for one class for each table: a letter for each cell; None for no form, -1 for a ring."""
    calls = [new(cells)]
    for cls, letters in enumerate(tables):
        calls.append(group())
        for cell, letter in enumerate(letters):
            if letter is None:
                calls.append(rule(cls, 0, [cell], 7))
            elif letter == -1:
                calls.append(rule(cls, 0, [cell], 6, 1, cell))
            elif letter > 0:
                calls.append(rule(cls, 2, [cell], 0, 1, letter))
    return calls


def fewest(cells, tables):
    """The answer, sought in all choices of cells, in the order that the document tells."""
    for many in range(cells + 1):
        for choice in itertools.combinations(range(cells), many):
            kinds = {tuple(letters[cell] for cell in choice) for letters in tables}
            if len(kinds) == len({tuple(letters) for letters in tables}):
                return [many, *choice]


class Parts(unittest.TestCase):
    def known(self, cells, tables, expected):
        self.assertEqual(told_back(tables_told(cells, tables), [parts([5])]), [[len(expected), *expected]])

    def test_no_classes(self):
        self.assertEqual(told_back([new(2)], [parts([5])]), [[0]])

    def test_one_class(self):
        self.known(3, [[1, 2, 3]], [])

    def test_tables_that_are_all_the_same(self):
        self.known(3, [[1, 2, 3], [1, 2, 3], [1, 2, 3]], [])
        self.known(1, [[0], [0]], [])

    def test_one_cell_is_enough(self):
        self.known(3, [[1, 1, 1], [1, 2, 1]], [1])
        self.known(3, [[1, 1, 1], [1, 2, 1], [1, 3, 3]], [1])
        self.known(1, [[1], [2]], [0])

    def test_of_several_the_first(self):
        self.known(3, [[1, 1, 1], [2, 2, 2]], [0])
        self.known(4, [[0, 1, 1, 1], [0, 2, 1, 2], [0, 2, 2, 3], [0, 1, 2, 3]], [1, 2])
        self.known(4, [[1, 1, 1, 1], [1, 2, 1, 2], [2, 1, 2, 1], [2, 2, 2, 2]], [0, 1])
        self.known(4, [[1, 1, 1, 1], [1, 1, 1, 2], [1, 2, 2, 1], [1, 2, 2, 2]], [1, 3])

    def test_fewer_cells_go_ahead_of_lesser_ones(self):
        self.known(3, [[1, 1, 1], [1, 2, 2], [2, 1, 3], [2, 2, 4]], [2])

    def test_cells_that_are_not_side_by_side(self):
        self.known(4, [[1, 0, 1, 0], [2, 0, 1, 0], [1, 0, 2, 0]], [0, 2])
        self.known(5, [[1, 0, 0, 0, 1], [2, 0, 0, 0, 1], [1, 0, 0, 0, 2]], [0, 4])

    def test_some_tables_the_same_some_not(self):
        self.known(2, [[1, 1], [1, 2], [1, 1], [1, 2]], [1])
        self.known(2, [[1, 1], [2, 1], [1, 1], [1, 2]], [0, 1])

    def test_tables_that_differ_in_no_form_or_a_ring_alone(self):
        self.known(2, [[1, 0], [1, None]], [1])
        self.known(2, [[1, 0], [1, -1]], [1])
        self.known(2, [[1, None], [1, -1]], [1])
        self.known(2, [[1, None], [1, None]], [])
        self.known(2, [[1, -1], [1, -1]], [])
        self.known(3, [[1, None, 0], [1, -1, 0], [1, 0, None]], [1])

    def test_an_empty_form_is_not_no_form(self):
        calls = [new(2), group(), group(), group(), rule(1, 0, [1], 7), rule(2, 0, [1], 6, 1, 1)]
        self.assertEqual(told_back(calls, [parts([])]), [[1, 1]])

    def test_all_cells_are_needed(self):
        for cells in (1, 2, 3, 7):
            tables = [[1] * cells] + [[2 if cell == k else 1 for cell in range(cells)] for k in range(cells)]
            self.known(cells, tables, list(range(cells)))

    def test_by_these_stems(self):
        rules = [rule(1, 2, [0], 3, 1, 7, 1, 8), rule(2, 1, [1], 5, 1), rule(3, 2, [2], 2, 2, 0)]
        calls = [new(3), group(), group(), group(), group(), *rules]
        asked = [parts([5]), parts([7]), parts([5], [5]), parts([5, 6], [5, 6]), parts([7, 7], [7, 8])]
        self.assertEqual(told_back(calls, asked), [[2, 1, 2], [3, 0, 1, 2], [1, 2], [1, 2], [3, 0, 1, 2]])

    def test_classes_have_the_rules_of_their_line(self):
        calls = [new(2), group(), group(0), group(1), rule(0, 2, [1], 0, 1, 8)]
        self.assertEqual(told_back(calls, [parts([5])]), [[0]])
        self.assertEqual(told_back([*calls, rule(1, 2, [1], 0, 1, 9)], [parts([5])]), [[1, 1]])

    def test_words_and_their_odd_forms_are_of_no_matter(self):
        calls = [new(2), group(), group(), word(0, [5]), word(1, [5]), odd(0, [0], [9])]
        asked = [parts([5]), table(0), word(0, [6])]
        self.assertEqual(told_back(calls, asked), [[0], [2, 1, 1, 9, 1, 1, 5], [2]])

    def test_against_all_choices(self):
        # The digits of unlike numbers in base 3 make tables that are mixed.
        for cells in range(1, 8):
            for many in (2, 3, 5, 8):
                tables = []
                for k in range(many):
                    number = (k + 1) * 100003 * (cells + many) // 7
                    tables.append([number // 3 ** cell % 3 for cell in range(cells)])
                expected = fewest(cells, tables)
                self.known(cells, tables, expected[1:])

    def test_stems_that_are_not_as_they_must_be(self):
        for stems in ([], [[1]] * 5, [[1] * 33], [[1], [1] * 33], [[1] * 100] * 100):
            self.assertEqual(told_back([new(2), group()], [parts(*stems)]), [[-1]])
            self.assertEqual(told_back([new(2)], [parts(*stems)]), [[-1]])
        self.assertEqual(told_back([new(2), group()], [parts(*[[1] * 32] * 4)]), [[0]])


if __name__ == "__main__":
    unittest.main()
