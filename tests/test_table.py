"""table and alike: what stands in all cells of a word, and which of them look the same."""

import unittest

from tests.calls import alike, group, new, odd, plain, rule, table, told_back, word

# Cell 0 is made, 1 has an empty form, 2 none, 3 a ring; 4 is taken from 0, 5 from 2, 6 from 3, 7 from 1.
MIXED = [
    new(8), group(), rule(0, 2, [-1], 0, 1, 9), rule(0, 2, [1], 2, 2, 0), rule(0, 0, [2], 7),
    *[rule(0, 0, [cell], 6, 1, source) for cell, source in ((3, 3), (4, 0), (5, 2), (6, 3), (7, 1))],
    word(0, [1, 2]), word(0, [1]),
]


class Table(unittest.TestCase):
    def test_all_that_can_stand_there(self):
        expected = [8, 1, 3, 1, 2, 9, 1, 0, 0, 2, 1, 3, 1, 2, 9, 0, 2, 1, 0]
        self.assertEqual(told_back(MIXED, [table(0)]), [expected])
        expected = [8, 1, 2, 1, 9, 0, 0, 2, 1, 2, 1, 9, 0, 2, 0]
        self.assertEqual(told_back(MIXED, [table(1)]), [expected])

    def test_one_cell(self):
        self.assertEqual(told_back([new(1), group(), word(0, [1, 2])], [table(0)]), [[1, 1, 2, 1, 2]])
        self.assertEqual(told_back([new(1, 1, 1, 1), group(), word(0, [])], [table(0)]), [[1, 1, 0]])

    def test_cells_go_by_their_numbers_the_last_feature_fastest(self):
        rules = [rule(0, 2, [k, -1], 0, 1, 10 + k) for k in range(2)]
        rules += [rule(0, 3, [-1, k], 0, 1, 20 + k) for k in range(3)]
        expected = [6]
        for first in (10, 11):
            for second in (20, 21, 22):
                expected += [1, 2, first, second]
        self.assertEqual(told_back([new(2, 3), group(), *rules, word(0, [])], [table(0)]), [expected])

    def test_odd_forms(self):
        calls = [new(2, 2), group(), word(0, [1]), odd(0, [0, 1], [5, 6]), odd(0, [1, 0], None), odd(0, [1, 1], [])]
        self.assertEqual(told_back(calls, [table(0)]), [[4, 1, 1, 1, 1, 2, 5, 6, 0, 1, 0]])
        self.assertEqual(told_back([*calls, plain(0, [1, 0])], [table(0)]), [[4, 1, 1, 1, 1, 2, 5, 6, 1, 1, 1, 1, 0]])

    def test_each_word_by_its_class_and_stems(self):
        rules = [rule(0, 2, [0], 0, 1, 8), rule(1, 2, [-1], 0, 1, 9), rule(2, 0, [1], 7)]
        calls = [new(2), group(), group(0), group(), *rules, word(0, [1]), word(1, [1]), word(2, [1]), word(1, [2])]
        asked = [table(0), table(1), table(2), table(3)]
        self.assertEqual(told_back(calls, asked), [
            [2, 1, 2, 1, 8, 1, 1, 1],
            [2, 1, 2, 1, 8, 1, 2, 1, 9],
            [2, 1, 1, 1, 0],
            [2, 1, 2, 2, 8, 1, 2, 2, 9],
        ])


class Alike(unittest.TestCase):
    def test_no_form_and_a_ring_and_an_empty_form_are_three_different_things(self):
        self.assertEqual(told_back(MIXED, [alike(0)]), [[4, 0, 1, 2, 3, 0, 2, 3, 1]])

    def test_no_form_is_the_same_whatever_the_reason(self):
        # In cell 1 the form can't be made, in cell 2 a rule says that there's none, in cell 0 an odd form does.
        self.assertEqual(told_back(MIXED, [alike(1)]), [[3, 0, 1, 1, 3, 0, 1, 3, 1]])
        asked = [odd(1, [0], None), alike(1)]
        self.assertEqual(told_back(MIXED, asked), [[0], [2, 0, 0, 0, 3, 0, 0, 3, 0]])

    def test_all_the_same(self):
        self.assertEqual(told_back([new(2, 2), group(), word(0, [1])], [alike(0)]), [[1, 0, 0, 0, 0]])
        self.assertEqual(told_back([new(1), group(), word(0, [])], [alike(0)]), [[1, 0]])

    def test_all_different(self):
        calls = [new(3), group(), *[rule(0, 2, [k], 0, 1, k) for k in range(3)], word(0, [1])]
        self.assertEqual(told_back(calls, [alike(0)]), [[3, 0, 1, 2]])

    def test_the_same_bytes_made_in_different_ways(self):
        rules = [rule(0, 2, [0], 0, 1, 1), rule(0, 2, [1], 1, 1, 1), rule(0, 2, [2], 4, 1), rule(0, 1, [3], 5, 1)]
        calls = [new(5), group(), *rules, word(0, [1], [1, 1]), odd(0, [4], [1, 1])]
        self.assertEqual(told_back(calls, [alike(0)]), [[1, 0, 0, 0, 0, 0]])

    def test_forms_of_which_one_begins_with_the_other(self):
        calls = [new(3), group(), rule(0, 2, [1], 0, 1, 0), rule(0, 2, [2], 1, 1, 0), word(0, [1])]
        self.assertEqual(told_back(calls, [alike(0)]), [[3, 0, 1, 2]])

    def test_a_form_that_looks_like_another_answer(self):
        # The forms 0, 1 and 2 of one byte are none of no form, an empty form, a ring.
        told = [odd(0, [0], [0]), odd(0, [1], [1]), odd(0, [2], [2])]
        calls = [new(6), group(), *told, odd(0, [3], None), odd(0, [4], []), rule(0, 0, [5], 6, 1, 5)]
        calls = [*calls[:2], word(0, [7]), *calls[2:]]
        self.assertEqual(told_back(calls, [alike(0)]), [[6, 0, 1, 2, 3, 4, 5]])

    def test_the_first_cell_with_the_same(self):
        told = [odd(0, [k], [k % 2]) for k in range(5)]
        self.assertEqual(told_back([new(5), group(), word(0, [9]), *told], [alike(0)]), [[2, 0, 1, 0, 1, 0]])


if __name__ == "__main__":
    unittest.main()
