"""find: the cells of words in which a form stands."""

import unittest

from tests.calls import drop, find, group, new, odd, plain, rule, told_back, word


class Find(unittest.TestCase):
    def test_no_words(self):
        self.assertEqual(told_back([new(2)], [find([1]), find([])]), [[0], [0]])
        self.assertEqual(told_back([new(2), group()], [find([1])]), [[0]])

    def test_by_words_then_by_cells(self):
        # Word 0 has 1 8, 1, 1 8; word 1 has 1 9, 1 9, 1; word 2 has 2 8, 2, 2 8; word 3 has 1 8, 1, 1 8.
        rules = [rule(0, 2, [-1], 0, 1, 8), rule(0, 2, [1], 0, 0), rule(1, 2, [-1], 0, 1, 9), rule(1, 2, [2], 0, 0)]
        words = [word(0, [1]), word(1, [1]), word(0, [2]), word(0, [1], [5])]
        calls = [new(3), group(), group(), *rules, *words]
        asked = [find([1, 8]), find([1]), find([1, 9]), find([2]), find([5]), find([8, 1])]
        self.assertEqual(told_back(calls, asked), [
            [4, 0, 0, 0, 2, 3, 0, 3, 2],
            [3, 0, 1, 1, 2, 3, 1],
            [2, 1, 0, 1, 1],
            [1, 2, 1],
            [0],
            [0],
        ])

    def test_an_empty_form(self):
        calls = [new(4), group(), rule(0, 0, [1], 7), rule(0, 0, [2], 6, 1, 2), word(0, []), word(0, [1])]
        self.assertEqual(told_back(calls, [find([])]), [[2, 0, 0, 0, 3]])
        calls = [*calls, odd(0, [0], None), odd(1, [1], []), odd(1, [2], [])]
        self.assertEqual(told_back(calls, [find([])]), [[3, 0, 3, 1, 1, 1, 2]])

    def test_a_form_that_no_cell_has(self):
        calls = [new(2), group(), word(0, [1, 2, 3])]
        for letters in ([], [1], [1, 2], [1, 2, 4], [1, 2, 3, 4], [2, 3], [3, 2, 1], [1] * 100):
            self.assertEqual(told_back(calls, [find(letters)]), [[0]])
        self.assertEqual(told_back(calls, [find([1, 2, 3])]), [[2, 0, 0, 0, 1]])

    def test_neither_no_form_nor_a_ring_is_found(self):
        calls = [new(2), group(), rule(0, 0, [0], 7), rule(0, 0, [1], 6, 1, 1), word(0, [0])]
        self.assertEqual(told_back(calls, [find([]), find([0]), find([2]), find([1])]), [[0]] * 4)

    def test_odd_forms(self):
        calls = [new(2, 2), group(), rule(0, 0, [1, -1], 6, 2, 0, -1), word(0, [1]), word(0, [2])]
        calls = [*calls, odd(0, [0, 1], [2]), odd(1, [1, 1], [1])]
        asked = [find([1]), find([2]), plain(0, [0, 1]), find([1]), find([2])]
        self.assertEqual(told_back(calls, asked), [
            [3, 0, 0, 0, 2, 1, 3],
            [5, 0, 1, 0, 3, 1, 0, 1, 1, 1, 2],
            [0],
            [5, 0, 0, 0, 1, 0, 2, 0, 3, 1, 3],
            [3, 1, 0, 1, 1, 1, 2],
        ])

    def test_after_rules_come_and_go(self):
        asked = [find([1, 8]), rule(0, 2, [-1], 0, 1, 8), find([1, 8]), rule(0, 2, [0], 0, 1, 7), find([1, 8])]
        asked += [drop(0), find([1, 8]), find([1, 7])]
        given = told_back([new(2), group(), word(0, [1])], asked)
        self.assertEqual(given, [[0], [0], [2, 0, 0, 0, 1], [1], [1, 0, 1], [1], [0], [1, 0, 0]])


if __name__ == "__main__":
    unittest.main()
