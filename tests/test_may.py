"""may: the classes to which a word with these stems and forms can belong."""

import unittest

from tests.calls import group, may, new, odd, rule, table, told_back, word

# Class 0 has A, AB; class 1 (of 0) A, AC; class 2 none, AB; class 3 (of 1) a ring, AC; class 4 the second stem, A.
CALLS = [
    new(2), group(), group(0), group(), group(1), group(),
    rule(0, 2, [1], 0, 1, 66), rule(1, 2, [1], 0, 1, 67), rule(2, 2, [1], 0, 1, 66), rule(2, 0, [0], 7),
    rule(3, 0, [0], 6, 1, 0), rule(4, 1, [0], 5, 1),
]
STEMS = [[65]]


class May(unittest.TestCase):
    def classes(self, stems, pairs, expected, calls=CALLS):
        self.assertEqual(told_back(calls, [may(stems, *pairs)]), [[len(expected), *expected]])

    def test_no_pairs(self):
        self.classes(STEMS, [], [0, 1, 2, 3, 4])
        self.classes([[], [], [], [1] * 32], [], [0, 1, 2, 3, 4])

    def test_one_pair(self):
        self.classes(STEMS, [([0], [65])], [0, 1])
        self.classes(STEMS, [([1], [65, 66])], [0, 2])
        self.classes(STEMS, [([1], [65, 67])], [1, 3])
        self.classes(STEMS, [([1], [65])], [4])
        self.classes(STEMS, [([1], [65, 68])], [])

    def test_several_pairs(self):
        self.classes(STEMS, [([0], [65]), ([1], [65, 67])], [1])
        self.classes(STEMS, [([1], [65, 67]), ([0], [65])], [1])
        self.classes(STEMS, [([0], [65]), ([1], [65])], [])
        self.classes(STEMS, [([1], [65, 66]), ([1], [65, 66])], [0, 2])

    def test_one_cell_with_two_different_forms(self):
        self.classes(STEMS, [([1], [65, 66]), ([1], [65, 67])], [])
        self.classes(STEMS, [([1], [65, 67]), ([1], [65, 66])], [])

    def test_several_stems(self):
        self.classes([[65], [70]], [([0], [70])], [4])
        self.classes([[65], [65]], [([0], [65])], [0, 1, 4])

    def test_an_empty_form(self):
        self.classes([[]], [([0], [])], [0, 1])
        self.classes([[65], []], [([0], [])], [4])
        self.classes(STEMS, [([0], [])], [])

    def test_a_byte_that_looks_like_no_form_or_a_ring(self):
        for byte in (0, 1, 2):
            self.classes(STEMS, [([0], [byte])], [])

    def test_no_classes(self):
        self.classes(STEMS, [], [], [new(2)])
        self.classes(STEMS, [([0], [65])], [], [new(2)])

    def test_words_and_their_odd_forms_are_of_no_matter(self):
        self.classes(STEMS, [([0], [65])], [0, 1], [*CALLS, word(0, [65]), odd(0, [0], [9]), word(2, [65])])

    def test_forms_taken_from_other_cells(self):
        calls = [new(2, 2), group(), group(0), rule(0, 2, [0, -1], 0, 1, 8), rule(1, 0, [1, -1], 6, 2, 0, -1)]
        self.classes([[1]], [([1, 1], [1, 8])], [1], calls)
        self.classes([[1]], [([1, 1], [1])], [0], calls)
        self.classes([[1]], [([0, 1], [1, 8])], [0, 1], calls)

    def test_many_pairs(self):
        self.classes(STEMS, [([1], [65, 66])] * 100, [0, 2])
        self.classes(STEMS, [*[([1], [65, 66])] * 99, ([0], [65])], [0])
        self.classes(STEMS, [([1], [7] * 100)] * 100, [])

    def test_nothing_is_changed(self):
        calls = [*CALLS, word(1, [65])]
        asked = [table(0), may(STEMS, ([0], [65])), table(0), word(1, [1]), may(STEMS, ([0], [65]))]
        expected = [2, 1, 1, 65, 1, 2, 65, 67]
        self.assertEqual(told_back(calls, asked), [expected, [2, 0, 1], expected, [1], [2, 0, 1]])

    def test_stems_that_are_not_as_they_must_be(self):
        for stems in ([], [[1]] * 5, [[1] * 33], [[1], [1] * 33], [[1]] * 100):
            self.assertEqual(told_back(CALLS, [may(stems), may(stems, ([0], [1]))]), [[-1], [-1]])
            self.assertEqual(told_back([new(2)], [may(stems)]), [[-1]])
        self.assertEqual(told_back(CALLS, [may([[1] * 32] * 4)]), [[5, 0, 1, 2, 3, 4]])

    def test_something_that_is_no_cell(self):
        for cell in ([], [2], [0, 0], [4294967295], [0] * 100):
            for pairs in ([(cell, [65])], [(cell, [65]), ([0], [65])], [([0], [65]), (cell, [65])]):
                self.assertEqual(told_back(CALLS, [may(STEMS, *pairs)]), [[-1]])
                self.assertEqual(told_back([new(2)], [may(STEMS, *pairs)]), [[-1]])
        # No class can have both forms of cell 1, and still the last cell is looked at.
        pairs = [([1], [65, 66]), ([1], [65]), ([2], [65])]
        self.assertEqual(told_back(CALLS, [may(STEMS, *pairs)]), [[-1]])


if __name__ == "__main__":
    unittest.main()
