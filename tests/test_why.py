"""why: from where what stands in a cell comes, and by which rules."""

import unittest

from tests.calls import drop, form, group, new, odd, plain, rule, told_back, why, word


class Why(unittest.TestCase):
    # Cell 1 is taken from 0, 2 from 1; 3 has no form, 4 is taken from 3; 5 and 6 from one another, 7 from 5.
    SOURCES = ((1, 0), (2, 1), (4, 3), (5, 6), (6, 5), (7, 5))
    RULES = [
        rule(0, 4, [-1], 0, 1, 50),
        *[rule(0, 0, [cell], 6, 1, source) for cell, source in SOURCES],
        rule(0, 0, [3], 7),
        rule(0, 1, [-1], 5, 1),
        rule(0, 2, [0], 1, 1, 51),
        rule(0, 2, [1], 1, 1, 52),
    ]
    CALLS = [new(8), group(), *RULES, word(0, [60], [61])]

    def tell(self, expected, *behind):
        """expected: by cells, what is answered."""
        asked = [why(0, [cell]) for cell in expected]
        self.assertEqual(told_back([*self.CALLS, *behind], asked), list(expected.values()))

    def test_made(self):
        self.tell({0: [2, 8, 9, 0]})

    def test_made_behind_cells_that_it_is_taken_from(self):
        self.tell({1: [2, 1, 8, 9, 0], 2: [2, 2, 1, 8, 9, 0]})

    def test_a_rule_says_that_there_is_none(self):
        self.tell({3: [1, 7], 4: [1, 3, 7]})

    def test_an_odd_form(self):
        for letters in ([1, 2], [], None):
            self.tell({0: [0], 1: [0, 1], 2: [0, 2, 1], 3: [1, 7]}, odd(0, [0], letters))
            self.tell({0: [2, 8, 9, 0], 1: [0], 2: [0, 2]}, odd(0, [1], letters))
            self.tell({3: [0], 4: [0, 3]}, odd(0, [3], letters))

    def test_after_plain(self):
        self.tell({0: [2, 8, 9, 0], 1: [2, 1, 8, 9, 0]}, odd(0, [0], [1]), plain(0, [0]))

    def test_a_ring_has_one_rule_more_than_there_are_cells(self):
        self.tell({
            5: [3, 4, 5, 4, 5, 4, 5, 4, 5, 4],
            6: [3, 5, 4, 5, 4, 5, 4, 5, 4, 5],
            7: [3, 6, 4, 5, 4, 5, 4, 5, 4, 5],
        })

    def test_a_ring_with_an_odd_form_in_it(self):
        self.tell({5: [0, 4], 6: [0], 7: [0, 6, 4]}, odd(0, [6], None))

    def test_a_cell_that_is_taken_from_itself(self):
        for sizes in ([1], [2], [2, 3], [8, 8]):
            whole = 1
            for size in sizes:
                whole *= size
            anywhere = [-1] * len(sizes)
            calls = [new(*sizes), group(), rule(0, 0, anywhere, 6, len(sizes), *anywhere), word(0, [1])]
            self.assertEqual(told_back(calls, [why(0, [0] * len(sizes))]), [[3] + [0] * (whole + 1)])

    def test_a_ring_of_all_cells(self):
        calls = [new(3), group(), *[rule(0, 0, [k], 6, 1, (k + 1) % 3) for k in range(3)], word(0, [1])]
        asked = [why(0, [k]) for k in range(3)]
        self.assertEqual(told_back(calls, asked), [[3, 0, 1, 2, 0], [3, 1, 2, 0, 1], [3, 2, 0, 1, 2]])

    def test_the_longest_way_without_a_ring(self):
        calls = [new(4), group(), *[rule(0, 0, [k], 6, 1, k + 1) for k in range(3)], word(0, [1])]
        self.assertEqual(told_back(calls, [why(0, [0])]), [[2, 0, 1, 2]])
        self.assertEqual(told_back([*calls, rule(0, 0, [3], 7)], [why(0, [0])]), [[1, 0, 1, 2, 3]])
        self.assertEqual(told_back([*calls, odd(0, [3], [])], [why(0, [0])]), [[0, 0, 1, 2]])

    def test_no_rules(self):
        self.assertEqual(told_back([new(4), group(), word(0, [1])], [why(0, [0])]), [[2]])

    def test_the_rules_are_told_in_full_where_the_form_cannot_be_made(self):
        behind = [rule(0, block, [-1], 0, 1, 9) for block in (3, 4, 5)]
        for block, *doing in ((1, 5, 3), (2, 2, 8, 0), (2, 4, 8)):
            calls = [new(2), group(), *behind, rule(0, block, [-1], *doing), word(0, [1]), rule(0, 0, [1], 6, 1, 0)]
            asked = [form(0, [0]), why(0, [0]), form(0, [1]), why(0, [1])]
            self.assertEqual(told_back(calls, asked), [[0], [2, 3, 0, 1, 2], [0], [2, 4, 3, 0, 1, 2]])

    def test_rules_that_change_nothing_are_told(self):
        rules = [rule(0, 2, [-1], 0, 0), rule(0, 3, [-1], 3, 0, 0), rule(0, 4, [-1], 4, 0), rule(0, 5, [-1], 2, 0, 0)]
        calls = [new(2), group(), *rules, word(0, [1])]
        self.assertEqual(told_back(calls, [why(0, [0])]), [[2, 0, 1, 2, 3]])

    def test_lesser_numbers_after_a_drop(self):
        self.tell({1: [2, 0, 7, 8], 4: [1, 2, 6], 7: [3, 5, 3, 4, 3, 4, 3, 4, 3, 4]}, drop(0))
        self.tell({3: [2, 7, 0], 4: [2, 3, 7, 0], 0: [2, 7, 8, 0]}, drop(7))


if __name__ == "__main__":
    unittest.main()
