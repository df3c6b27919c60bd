"""The rule that is followed: it fixes most, then its class comes first in the line, then it was told last."""

import unittest

from tests.calls import drop, form, group, new, rule, told_back, why, word

ANYWHERE = [-1, -1]
# Class 1 has the parent 0, class 2 the parent 1; class 3 the parent 0; class 4 none. Word n is of class n.
FEATURES = new(2, 2)
CLASSES = [group(), group(0), group(1), group(0), group()]
WORDS = [word(number, [9]) for number in range(5)]


def putting(cls, condition, letter, block=2):
    return rule(cls, block, condition, 0, 1, letter)


class Followed(unittest.TestCase):
    def follow(self, rules, number, cell, expected, behind=()):
        """With these rules the word has in this cell the form that ends with what the expected rules put there."""
        calls = [FEATURES, *CLASSES, *rules, *WORDS, *behind]
        self.assertEqual(told_back(calls, [why(number, cell)]), [[2, *expected]])

    def test_none(self):
        self.follow([], 0, [0, 0], [])

    def test_only_where_the_condition_is_met(self):
        for condition, met in (
            (ANYWHERE, [[0, 0], [0, 1], [1, 0], [1, 1]]),
            ([0, -1], [[0, 0], [0, 1]]),
            ([-1, 1], [[0, 1], [1, 1]]),
            ([1, 0], [[1, 0]]),
        ):
            for cell in ([0, 0], [0, 1], [1, 0], [1, 1]):
                self.follow([putting(0, condition, 1)], 0, cell, [0] if cell in met else [])

    def test_the_one_that_fixes_most(self):
        rules = [putting(0, [0, 0], 1), putting(0, [0, -1], 2), putting(0, ANYWHERE, 3)]
        self.follow(rules, 0, [0, 0], [0])
        self.follow(rules, 0, [0, 1], [1])
        self.follow(rules, 0, [1, 1], [2])

    def test_what_is_fixed_goes_by_how_many_values_not_by_which(self):
        self.follow([putting(0, [-1, 0], 1), putting(0, [0, -1], 2)], 0, [0, 0], [1])
        self.follow([putting(0, [0, -1], 2), putting(0, [-1, 0], 1)], 0, [0, 0], [1])
        self.follow([putting(0, [1, -1], 1), putting(0, [-1, 0], 2)], 0, [1, 0], [1])

    def test_it_may_fix_most_though_its_class_is_further_in_the_line(self):
        rules = [putting(2, [0, -1], 1), putting(0, [0, 0], 2), putting(1, [0, -1], 3)]
        self.follow(rules, 2, [0, 0], [1])
        self.follow(rules, 2, [0, 1], [0])

    def test_of_equals_the_class_that_comes_first_in_the_line(self):
        rules = [putting(2, [0, -1], 1), putting(1, [-1, 0], 2), putting(0, [0, -1], 3)]
        self.follow(rules, 2, [0, 0], [0])
        self.follow(rules, 1, [0, 0], [1])
        self.follow(rules, 0, [0, 0], [2])
        self.follow([putting(1, ANYWHERE, 1), putting(0, ANYWHERE, 2)], 2, [1, 1], [0])

    def test_a_class_with_a_lesser_number_may_come_first_in_the_line(self):
        # The line goes by parents, and both ways of counting along it must not be mixed up.
        self.follow([putting(3, ANYWHERE, 1), putting(0, ANYWHERE, 2)], 3, [0, 0], [0])
        self.follow([putting(0, ANYWHERE, 2), putting(3, ANYWHERE, 1)], 3, [0, 0], [1])

    def test_of_equals_in_one_class_the_one_told_last(self):
        rules = [putting(0, [0, -1], 1), putting(0, [-1, 0], 2), putting(0, [0, -1], 3)]
        self.follow(rules, 0, [0, 0], [2])
        self.follow(rules, 0, [1, 0], [1])
        self.follow(rules[:2], 0, [0, 0], [1])

    def test_no_rule_of_a_class_that_is_not_in_the_line(self):
        rules = [putting(2, [0, 0], 1), putting(3, [0, 0], 2), putting(4, [0, 0], 3), putting(0, ANYWHERE, 4)]
        self.follow(rules, 0, [0, 0], [3])
        self.follow(rules, 1, [0, 0], [3])
        self.follow(rules, 2, [0, 0], [0])
        self.follow(rules, 3, [0, 0], [1])
        self.follow(rules, 4, [0, 0], [2])
        self.follow(rules, 4, [0, 1], [])

    def test_the_same_after_a_drop(self):
        rules = [putting(0, ANYWHERE, 1), putting(0, [0, 0], 2), putting(0, [0, -1], 3), putting(0, [0, -1], 4)]
        self.follow(rules, 0, [0, 0], [0], [drop(1), drop(1), drop(1)])
        self.follow(rules, 0, [0, 0], [2], [drop(1)])
        self.follow(rules, 0, [0, 1], [2], [drop(3)])
        self.follow(rules, 0, [0, 0], [0], [drop(0)])
        self.follow(rules, 0, [1, 1], [], [drop(0)])

    def test_the_form_after_a_drop(self):
        rules = [putting(0, ANYWHERE, 1), putting(0, [0, 0], 2), putting(0, [0, -1], 3)]
        calls = [FEATURES, *CLASSES, *rules, *WORDS]
        asked = [form(1, [0, 0]), drop(1), form(1, [0, 0]), drop(1), form(1, [0, 0]), drop(0), form(1, [0, 0])]
        self.assertEqual(told_back(calls, asked), [[1, 9, 2], [2], [1, 9, 3], [1], [1, 9, 1], [0], [1, 9]])

    def test_a_rule_told_behind_the_word(self):
        asked = [form(0, [0, 0]), putting(0, ANYWHERE, 7), form(0, [0, 0]), form(4, [0, 0])]
        self.assertEqual(told_back([FEATURES, *CLASSES, *WORDS], asked), [[1, 9], [0], [1, 9, 7], [1, 9]])

    def test_one_in_each_block(self):
        rules = [putting(0, ANYWHERE, block, block) for block in (5, 3, 4, 2)]
        rules += [rule(0, 1, ANYWHERE, 5, 0), putting(0, [0, 0], 8, 4), putting(1, ANYWHERE, 6, 3)]
        self.follow(rules, 0, [0, 0], [4, 3, 1, 5, 0])
        self.follow(rules, 1, [0, 1], [4, 3, 6, 2, 0])

    def test_in_block_0(self):
        rules = [rule(0, 0, [0, -1], 7), rule(0, 0, [0, 0], 6, 2, 1, 1), rule(1, 0, [-1, 1], 6, 2, 0, 0)]
        calls = [FEATURES, *CLASSES, *rules, *WORDS]
        asked = [why(0, [0, 0]), why(0, [0, 1]), why(1, [0, 1]), why(1, [0, 0])]
        self.assertEqual(told_back(calls, asked), [[2, 1], [1, 0], [3, 2, 1, 2, 1, 2], [3, 1, 2, 1, 2, 1]])


if __name__ == "__main__":
    unittest.main()
