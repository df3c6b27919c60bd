"""form: what stands in a cell, with each thing that a rule does."""

import unittest

from tests.calls import form, group, new, odd, plain, rule, told_back, word

STEM = [1, 2, 3]


def made(rules, *stems):
    """What stands in the one cell of a word of these stems, by these rules: a block, what it does."""
    calls = [new(1), group(), *[rule(0, block, [-1], *doing) for block, *doing in rules], word(0, *stems)]
    return told_back(calls, [form(0, [0])])[0]


class Made(unittest.TestCase):
    def test_no_rules(self):
        self.assertEqual(made([], STEM), [1, 1, 2, 3])
        self.assertEqual(made([], [4], STEM), [1, 4])
        self.assertEqual(made([], []), [1])
        self.assertEqual(made([], [0, 255]), [1, 0, 255])

    def test_0_puts_behind(self):
        self.assertEqual(made([(2, 0, 2, 8, 9)], STEM), [1, 1, 2, 3, 8, 9])
        self.assertEqual(made([(2, 0, 0)], STEM), [1, 1, 2, 3])
        self.assertEqual(made([(2, 0, 1, 8)], []), [1, 8])

    def test_1_puts_ahead(self):
        self.assertEqual(made([(2, 1, 2, 8, 9)], STEM), [1, 8, 9, 1, 2, 3])
        self.assertEqual(made([(2, 1, 0)], STEM), [1, 1, 2, 3])
        self.assertEqual(made([(2, 1, 1, 8)], []), [1, 8])

    def test_2_changes_the_end(self):
        self.assertEqual(made([(2, 2, 1, 2, 8, 9)], STEM), [1, 1, 2, 8, 9])
        self.assertEqual(made([(2, 2, 2, 0)], STEM), [1, 1])

    def test_2_with_k_of_0(self):
        self.assertEqual(made([(2, 2, 0, 2, 8, 9)], STEM), [1, 1, 2, 3, 8, 9])
        self.assertEqual(made([(2, 2, 0, 1, 8)], []), [1, 8])
        self.assertEqual(made([(2, 2, 0, 0)], []), [1])

    def test_2_with_a_form_of_k_bytes_and_of_one_fewer(self):
        self.assertEqual(made([(2, 2, 3, 1, 8)], STEM), [1, 8])
        self.assertEqual(made([(2, 2, 3, 0)], STEM), [1])
        self.assertEqual(made([(2, 2, 4, 1, 8)], STEM), [0])
        self.assertEqual(made([(2, 2, 8, 0)], STEM + STEM + [4, 5]), [1])
        self.assertEqual(made([(2, 2, 8, 0)], STEM + STEM + [4]), [0])
        self.assertEqual(made([(2, 2, 1, 1, 8)], []), [0])

    def test_3_changes_the_last_of_several(self):
        self.assertEqual(made([(2, 3, 2, 1, 2, 2, 8, 9)], [1, 2, 1, 2, 3]), [1, 1, 2, 1, 8, 9, 3])
        self.assertEqual(made([(2, 3, 2, 2, 1, 2, 8, 9)], [1, 2, 2, 1, 3]), [1, 1, 2, 2, 8, 9, 3])
        self.assertEqual(made([(2, 3, 1, 1, 1, 8)], [1, 2, 1]), [1, 1, 2, 8])
        self.assertEqual(made([(2, 3, 1, 1, 1, 8)], [1, 2, 3]), [1, 8, 2, 3])

    def test_3_where_none_is_there(self):
        self.assertEqual(made([(2, 3, 2, 7, 8, 1, 9)], STEM), [1, 1, 2, 3])
        self.assertEqual(made([(2, 3, 1, 1, 1, 9)], []), [1])

    def test_3_where_a_list_is_empty(self):
        self.assertEqual(made([(2, 3, 0, 1, 9)], STEM), [1, 1, 2, 3])
        self.assertEqual(made([(2, 3, 1, 2, 0)], [2, 1, 2, 3]), [1, 2, 1, 3])
        self.assertEqual(made([(2, 3, 0, 0)], STEM), [1, 1, 2, 3])
        self.assertEqual(made([(2, 3, 1, 1, 0)], [1]), [1])

    def test_3_puts_in_what_it_takes_out_but_once(self):
        self.assertEqual(made([(2, 3, 1, 1, 2, 1, 1)], [1, 5]), [1, 1, 1, 5])

    def test_4_repeats_the_start(self):
        self.assertEqual(made([(2, 4, 1)], STEM), [1, 1, 1, 2, 3])
        self.assertEqual(made([(2, 4, 2)], STEM), [1, 1, 2, 1, 2, 3])

    def test_4_with_k_of_0(self):
        self.assertEqual(made([(2, 4, 0)], STEM), [1, 1, 2, 3])
        self.assertEqual(made([(2, 4, 0)], []), [1])

    def test_4_with_a_form_of_k_bytes_and_of_one_fewer(self):
        self.assertEqual(made([(2, 4, 3)], STEM), [1, 1, 2, 3, 1, 2, 3])
        self.assertEqual(made([(2, 4, 4)], STEM), [0])
        self.assertEqual(made([(2, 4, 8)], STEM + STEM + [4, 5]), [1, *(STEM + STEM + [4, 5]) * 2])
        self.assertEqual(made([(2, 4, 8)], STEM + STEM + [4]), [0])
        self.assertEqual(made([(2, 4, 1)], []), [0])

    def test_5_chooses_the_stem(self):
        stems = [[1], [2], [3], [4]]
        for j in range(4):
            self.assertEqual(made([(1, 5, j)], *stems), [1, j + 1])

    def test_5_where_the_word_has_not_that_stem(self):
        self.assertEqual(made([(1, 5, 1)], [1]), [0])
        self.assertEqual(made([(1, 5, 2)], [1], [2]), [0])
        self.assertEqual(made([(1, 5, 3)], [1], [2], [3]), [0])
        self.assertEqual(made([(1, 5, 1)], [1], []), [1])

    def test_7_says_that_there_is_none(self):
        self.assertEqual(made([(0, 7), (1, 5, 0), (2, 0, 1, 8)], STEM), [0])

    def test_blocks_in_their_order(self):
        told = [(5, 0, 1, 5), (3, 0, 1, 3), (4, 0, 1, 4), (2, 0, 1, 2), (1, 5, 1)]
        self.assertEqual(made(told, [1], [7]), [1, 7, 2, 3, 4, 5])
        self.assertEqual(made([(3, 2, 1, 1, 9), (2, 0, 1, 8)], STEM), [1, 1, 2, 3, 9])
        self.assertEqual(made([(4, 4, 2), (2, 1, 1, 8)], STEM), [1, 8, 1, 8, 1, 2, 3])

    def test_what_a_block_made_is_what_the_next_changes(self):
        told = [(2, 1, 1, 6), (3, 4, 2), (4, 3, 1, 6, 1, 7), (5, 2, 1, 0)]
        self.assertEqual(made(told, STEM), [1, 6, 1, 7, 1, 2])
        self.assertEqual(made([(2, 2, 3, 0), (3, 2, 1, 0)], STEM), [0])
        self.assertEqual(made([(2, 0, 1, 4), (3, 2, 4, 1, 5)], STEM), [1, 5])

    def test_no_form_in_a_block_and_rules_in_blocks_behind_it(self):
        behind = [(3, 0, 1, 8), (4, 3, 1, 1, 1, 8), (5, 4, 0)]
        self.assertEqual(made([(2, 2, 4, 1, 8), *behind], STEM), [0])
        self.assertEqual(made([(2, 4, 4), *behind], STEM), [0])
        self.assertEqual(made([(1, 5, 1), (2, 1, 1, 8), *behind], STEM), [0])
        self.assertEqual(made([(4, 2, 4, 0), (5, 1, 1, 8)], STEM), [0])

    def test_no_form_in_the_last_block(self):
        self.assertEqual(made([(2, 0, 1, 8), (5, 2, 5, 0)], STEM), [0])

    def test_the_longest(self):
        told = [(block, 0, 16, *range(16)) for block in (2, 3, 4, 5)]
        self.assertEqual(made(told, [7] * 32), [1, *[7] * 32, *list(range(16)) * 4])

    def test_the_word_stays_as_it_is(self):
        calls = [new(1), group(), rule(0, 2, [0], 0, 1, 8), rule(0, 3, [0], 2, 2, 1, 9), word(0, STEM)]
        self.assertEqual(told_back(calls, [form(0, [0])] * 3), [[1, 1, 2, 9]] * 3)


class Taken(unittest.TestCase):
    def stand(self, told, cell, expected, behind=()):
        """Each form is its cell's three values: a rule for each value of each feature puts it there."""
        rules = [rule(0, 2 + k, condition, 0, 1, value) for k, value, condition in marks()]
        calls = [new(2, 3, 2), group(), *rules, *told, word(0, []), *behind]
        self.assertEqual(told_back(calls, [form(0, cell)]), [expected])

    def test_the_cells_themselves(self):
        self.stand([], [1, 2, 0], [1, 1, 2, 0])
        self.stand([], [0, 1, 1], [1, 0, 1, 1])

    def test_with_all_values_told(self):
        told = [rule(0, 0, [1, -1, -1], 6, 3, 0, 2, 1)]
        self.stand(told, [1, 0, 0], [1, 0, 2, 1])
        self.stand(told, [1, 2, 1], [1, 0, 2, 1])
        self.stand(told, [0, 0, 0], [1, 0, 0, 0])

    def test_with_some_values_told(self):
        told = [rule(0, 0, [-1, 2, -1], 6, 3, -1, 0, -1)]
        self.stand(told, [0, 2, 1], [1, 0, 0, 1])
        self.stand(told, [1, 2, 0], [1, 1, 0, 0])
        self.stand(told, [1, 1, 0], [1, 1, 1, 0])
        self.stand([rule(0, 0, [0, -1, -1], 6, 3, 1, -1, 0)], [0, 2, 1], [1, 1, 2, 0])

    def test_with_none_told(self):
        told = [rule(0, 0, [-1, 2, -1], 6, 3, -1, -1, -1)]
        self.stand(told, [0, 2, 1], [2])
        self.stand(told, [0, 1, 1], [1, 0, 1, 1])

    def test_from_cell_to_cell(self):
        told = [rule(0, 0, [-1, 2, -1], 6, 3, -1, 1, -1), rule(0, 0, [-1, 1, 1], 6, 3, -1, -1, 0)]
        self.stand(told, [1, 2, 1], [1, 1, 1, 0])
        self.stand(told, [1, 2, 0], [1, 1, 1, 0])

    def test_from_a_cell_of_which_a_rule_says_that_it_has_none(self):
        told = [rule(0, 0, [0, -1, -1], 6, 3, 1, -1, -1), rule(0, 0, [1, 0, -1], 7)]
        self.stand(told, [0, 0, 1], [0])
        self.stand(told, [0, 1, 1], [1, 1, 1, 1])

    def test_an_odd_form_in_the_cell_that_it_is_taken_from(self):
        told = [rule(0, 0, [0, -1, -1], 6, 3, 1, -1, -1)]
        self.stand(told, [0, 1, 1], [1, 40, 41], [odd(0, [1, 1, 1], [40, 41])])
        self.stand(told, [0, 1, 1], [1], [odd(0, [1, 1, 1], [])])
        self.stand(told, [0, 1, 1], [0], [odd(0, [1, 1, 1], None)])
        self.stand(told, [0, 1, 1], [1, 1, 1, 1], [odd(0, [1, 1, 0], [40])])
        self.stand(told, [0, 1, 1], [1, 1, 1, 1], [odd(0, [1, 1, 1], [40]), plain(0, [1, 1, 1])])

    def test_an_odd_form_in_the_cell_itself(self):
        told = [rule(0, 0, [0, -1, -1], 6, 3, 1, -1, -1), rule(0, 0, [1, 0, -1], 7)]
        for cell in ([0, 1, 1], [1, 1, 1], [1, 0, 0]):
            self.stand(told, cell, [1, 40, 41], [odd(0, cell, [40, 41])])
            self.stand(told, cell, [1], [odd(0, cell, [])])
            self.stand(told, cell, [0], [odd(0, cell, None)])
        self.stand(told, [0, 1, 1], [1, 1, 1, 1], [odd(0, [0, 1, 1], [40]), plain(0, [0, 1, 1])])
        self.stand(told, [0, 1, 1], [1, 1, 1, 1], [odd(0, [0, 1, 1], None), plain(0, [0, 1, 1])])
        self.stand(told, [1, 0, 0], [0], [odd(0, [1, 0, 0], [40]), plain(0, [1, 0, 0])])

    def test_an_odd_form_is_not_changed_by_rules(self):
        self.stand([rule(0, 5, [0, 0, 0], 0, 1, 99)], [0, 0, 0], [1, 40], [odd(0, [0, 0, 0], [40])])

    def test_an_odd_form_is_that_words_alone(self):
        calls = [new(2), group(), word(0, [1]), word(0, [2]), odd(1, [0], [3])]
        asked = [form(0, [0]), form(0, [1]), form(1, [0]), form(1, [1])]
        self.assertEqual(told_back(calls, asked), [[1, 1], [1, 1], [1, 3], [1, 2]])

    def test_an_odd_form_told_twice(self):
        asked = [odd(0, [0], [3]), odd(0, [0], [4]), form(0, [0]), odd(0, [0], None), form(0, [0])]
        self.assertEqual(told_back([new(2), group(), word(0, [1])], asked), [[0], [0], [1, 4], [0], [0]])


def marks():
    """For each value of each of three features (2, 3 and 2 values): the feature, the value, a condition."""
    for k, size in enumerate((2, 3, 2)):
        for value in range(size):
            yield k, value, [value if place == k else -1 for place in range(3)]


class Rings(unittest.TestCase):
    # Cells 0, 1, 2 are taken from one another, 3 comes to them, 4 is taken from itself, 5 is made.
    RULES = [rule(0, 0, [k], 6, 1, source) for k, source in ((0, 1), (1, 2), (2, 0), (3, 1), (4, 4))]
    CALLS = [new(6), group(), *RULES, word(0, [7])]

    def stand(self, expected, *behind):
        asked = [form(0, [cell]) for cell in range(6)]
        self.assertEqual(told_back([*self.CALLS, *behind], asked), expected)

    def test_rings(self):
        self.stand([[2], [2], [2], [2], [2], [1, 7]])

    def test_an_odd_form_in_a_ring_is_an_end(self):
        self.stand([[1, 8], [1, 8], [1, 8], [1, 8], [2], [1, 7]], odd(0, [2], [8]))
        self.stand([[0], [0], [0], [0], [2], [1, 7]], odd(0, [1], None))
        self.stand([[2], [2], [2], [2], [1], [1, 7]], odd(0, [4], []))

    def test_an_odd_form_outside_a_ring(self):
        self.stand([[2], [2], [2], [1, 8], [2], [1, 7]], odd(0, [3], [8]))

    def test_a_ring_again_after_plain(self):
        self.stand([[2], [2], [2], [2], [2], [1, 7]], odd(0, [2], [8]), plain(0, [2]))

    def test_the_longest_way_without_a_ring(self):
        rules = [rule(0, 0, [k, -1], 6, 2, k + 1, -1) for k in range(7)]
        calls = [new(8, 1), group(), *rules, rule(0, 2, [7, 0], 0, 1, 9), word(0, [7])]
        self.assertEqual(told_back(calls, [form(0, [0, 0])]), [[1, 7, 9]])
        self.assertEqual(told_back([*calls, rule(0, 0, [7, 0], 7)], [form(0, [0, 0])]), [[0]])
        self.assertEqual(told_back([*calls, rule(0, 0, [7, 0], 6, 2, 7, 0)], [form(0, [0, 0])]), [[2]])

    def test_one_cell(self):
        calls = [new(1), group(), rule(0, 0, [0], 6, 1, 0), word(0, [7])]
        self.assertEqual(told_back(calls, [form(0, [0])]), [[2]])


if __name__ == "__main__":
    unittest.main()
