"""Promise 3: rule and drop."""

import unittest

from tests.calls import call, counted, drop, firsts, group, last, new, rule

START = [new(2, 3), group()]
ALL = [-1, -1]


def answer_rule(*told):
    return last(*START, rule(*told))


class RuleIsKept(unittest.TestCase):
    def test_each_doing_in_its_blocks(self):
        rules = [rule(0, 0, ALL, 6, 2, 0, -1), rule(0, 0, [1, 2], 7), rule(0, 1, ALL, 5, 2)]
        for block in (2, 3, 4, 5):
            rules += [
                rule(0, block, ALL, 0, 1, 97), rule(0, block, [0, -1], 1, 2, 97, 98),
                rule(0, block, [-1, 2], 2, 1, 1, 97), rule(0, block, ALL, 3, 2, 97, 101, 1, 105),
                rule(0, block, ALL, 4, 2),
            ]
        self.assertEqual(firsts(*START, *rules), [6, 0, *range(23)])

    def test_the_conditions_edges(self):
        for condition in ([0, 0], [1, 2], [-1, 2], [1, -1], [-1, -1]):
            self.assertEqual(answer_rule(0, 0, condition, 7), 0)

    def test_what_six_tells(self):
        for taken in ([0, 0], [1, 2], [-1, -1], [-1, 2]):
            self.assertEqual(answer_rule(0, 0, ALL, 6, *counted(taken)), 0)

    def test_empty_lists(self):
        self.assertEqual(answer_rule(0, 2, ALL, 0, 0), 0)
        self.assertEqual(answer_rule(0, 2, ALL, 1, 0), 0)
        self.assertEqual(answer_rule(0, 2, ALL, 2, 0, 0), 0)
        self.assertEqual(answer_rule(0, 2, ALL, 3, 0, 0), 0)

    def test_sixteen_bytes(self):
        many = counted([255] * 16)
        for doing in ([0, *many], [1, *many], [2, 1, *many], [3, *many, 0], [3, 0, *many], [3, *many, *many]):
            self.assertEqual(answer_rule(0, 5, ALL, *doing), 0)

    def test_k_and_j(self):
        for k in (0, 1, 8):
            self.assertEqual(answer_rule(0, 3, ALL, 2, k, 0), 0)
            self.assertEqual(answer_rule(0, 3, ALL, 4, k), 0)
        for j in (0, 1, 2, 3):
            self.assertEqual(answer_rule(0, 1, ALL, 5, j), 0)


class RuleRefuses(unittest.TestCase):
    def test_no_such_class(self):
        for cls in (1, 4294967295):
            self.assertEqual(answer_rule(cls, 0, ALL, 7), -2)
        self.assertEqual(firsts(new(2), rule(0, 0, [0], 7)), [2, -2])

    def test_a_condition_of_another_length(self):
        for condition in ([], [0], [0, 0, 0], [-1] * 100):
            self.assertEqual(answer_rule(0, 0, condition, 7), -1)

    def test_a_condition_with_no_value(self):
        for condition in ([2, 0], [0, 3], [-2, 0], [0, -2], [-2147483648, 0], [0, 2147483647]):
            self.assertEqual(answer_rule(0, 0, condition, 7), -1)

    def test_six_with_no_condition(self):
        for taken in ([], [0], [0, 0, 0], [2, 0], [0, 3], [-2, 0], [0, 4294967295]):
            self.assertEqual(answer_rule(0, 0, ALL, 6, *counted(taken)), -1)

    def test_no_such_doing(self):
        for doing in (8, 9, 4294967295):
            for block in range(6):
                self.assertEqual(answer_rule(0, block, ALL, doing), -1)
                self.assertEqual(answer_rule(0, block, ALL, doing, 1, 97), -1)

    def test_a_doing_that_is_not_as_told(self):
        self.assertEqual(answer_rule(0, 0, ALL, 7, 0), -1)
        self.assertEqual(answer_rule(0, 0, ALL), -1)
        self.assertEqual(answer_rule(0, 1, ALL, 5), -1)
        self.assertEqual(answer_rule(0, 1, ALL, 5, 1, 1), -1)
        self.assertEqual(answer_rule(0, 2, ALL, 0), -1)
        self.assertEqual(answer_rule(0, 2, ALL, 0, 2), -1)
        self.assertEqual(answer_rule(0, 2, ALL, 0, 2, 97), -1)
        self.assertEqual(answer_rule(0, 2, ALL, 0, 1, 97, 98), -1)
        self.assertEqual(answer_rule(0, 2, ALL, 2, 1), -1)
        self.assertEqual(answer_rule(0, 2, ALL, 3, 1, 97), -1)
        self.assertEqual(answer_rule(0, 2, ALL, 4), -1)
        self.assertEqual(last(*START, call(2, [0, 0, 3, -1, -1])), -1)

    def test_numbers_below_none(self):
        self.assertEqual(answer_rule(0, 0, ALL, -1), -1)
        self.assertEqual(answer_rule(0, 1, ALL, 5, -1), -1)
        self.assertEqual(answer_rule(0, 2, ALL, 4, -1), -1)
        self.assertEqual(answer_rule(0, 2, ALL, 0, -1), -1)

    def test_another_block(self):
        blocks_of = {0: (2, 3, 4, 5), 1: (2, 3, 4, 5), 2: (2, 3, 4, 5), 3: (2, 3, 4, 5), 4: (2, 3, 4, 5),
                     5: (1,), 6: (0,), 7: (0,)}
        told = {0: [1, 97], 1: [1, 97], 2: [1, 1, 97], 3: [1, 97, 1, 98], 4: [1], 5: [1], 6: [2, 0, 0], 7: []}
        for doing, blocks in blocks_of.items():
            for block in (0, 1, 2, 3, 4, 5, 6, 4294967295):
                expected = 0 if block in blocks else -1
                self.assertEqual(answer_rule(0, block, ALL, doing, *told[doing]), expected, (doing, block))

    def test_seventeen_bytes(self):
        for length in (17, 100):
            many = counted([0] * length)
            for doing in ([0, *many], [1, *many], [2, 1, *many], [3, *many, 0], [3, 0, *many]):
                self.assertEqual(answer_rule(0, 2, ALL, *doing), -1)

    def test_k_above_eight_and_j_above_three(self):
        for k in (9, 4294967295):
            self.assertEqual(answer_rule(0, 2, ALL, 2, k, 0), -1)
            self.assertEqual(answer_rule(0, 2, ALL, 4, k), -1)
        for j in (4, 8, 4294967295):
            self.assertEqual(answer_rule(0, 1, ALL, 5, j), -1)

    def test_no_such_class_is_told_ahead_of_a_wrong_rule(self):
        self.assertEqual(answer_rule(1, 0, [0], 7), -2)
        self.assertEqual(answer_rule(1, 6, ALL, 8), -2)

    def test_a_refused_rule_is_not_kept(self):
        after = firsts(*START, rule(1, 0, ALL, 7), rule(0, 0, [0], 7), drop(0), rule(0, 0, ALL, 7), drop(1), drop(0))
        self.assertEqual(after[2:], [-2, -1, -2, 0, -2, 0])


class TwoHundredRules(unittest.TestCase):
    # A line of 200 calls can't hold so many rules: this one is longer, to show the bound all the same.
    FULL = [*START, *[rule(0, 0, ALL, 7)] * 200]

    def test_the_two_hundredth_and_the_one_behind(self):
        after = firsts(*self.FULL, rule(0, 0, ALL, 7))
        self.assertEqual(after[2:], [*range(200), -5])

    def test_other_refusals_are_told_ahead_of_too_many(self):
        after = firsts(*self.FULL, rule(1, 0, ALL, 7), rule(0, 1, ALL, 7), rule(1, 1, ALL, 7))
        self.assertEqual(after[202:], [-2, -1, -2])

    def test_dropping_one_makes_room_for_one(self):
        after = firsts(*self.FULL, rule(0, 0, ALL, 7), drop(0), rule(0, 0, ALL, 7), rule(0, 0, ALL, 7))
        self.assertEqual(after[202:], [-5, 199, 199, -5])


class Drop(unittest.TestCase):
    THREE = [*START, rule(0, 0, ALL, 7), rule(0, 1, ALL, 5, 1), rule(0, 2, ALL, 0, 1, 97)]

    def test_how_many_are_left(self):
        self.assertEqual(firsts(*self.THREE, drop(1), drop(0), drop(0), drop(0))[5:], [2, 1, 0, -2])

    def test_those_behind_get_lesser_numbers(self):
        self.assertEqual(firsts(*self.THREE, drop(0), drop(2), drop(1), drop(1), drop(0))[5:], [2, -2, 1, -2, 0])

    def test_a_rule_told_later_is_numbered_behind_those_left(self):
        self.assertEqual(firsts(*self.THREE, drop(1), rule(0, 0, ALL, 7), drop(2), drop(2))[5:], [2, 2, 2, -2])

    def test_no_such_rule(self):
        self.assertEqual(firsts(*START, drop(0)), [6, 0, -2])
        self.assertEqual(firsts(*self.THREE, drop(3), drop(4294967295), drop(2))[5:], [-2, -2, 2])


if __name__ == "__main__":
    unittest.main()
