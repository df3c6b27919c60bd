"""Promise 1: new; and -4 of all calls but new."""

import unittest

from tests.calls import drop, firsts, group, last, new, odd, plain, rule, word


class NewAnswersHowManyCells(unittest.TestCase):
    def test_ordinary_sizes(self):
        self.assertEqual(firsts(new(2, 3)), [6])
        self.assertEqual(firsts(new(6, 2, 3)), [36])

    def test_one_size_and_four(self):
        self.assertEqual(firsts(new(5)), [5])
        self.assertEqual(firsts(new(2, 2, 3, 2)), [24])

    def test_sizes_of_one_and_eight(self):
        self.assertEqual(firsts(new(1)), [1])
        self.assertEqual(firsts(new(8)), [8])
        self.assertEqual(firsts(new(1, 1, 1, 1)), [1])

    def test_sixty_four_cells(self):
        self.assertEqual(firsts(new(8, 8)), [64])
        self.assertEqual(firsts(new(4, 4, 4)), [64])
        self.assertEqual(firsts(new(2, 4, 1, 8)), [64])


class NewRefuses(unittest.TestCase):
    def test_no_size_and_five(self):
        self.assertEqual(firsts(new()), [-1])
        self.assertEqual(firsts(new(1, 1, 1, 1, 1)), [-1])
        self.assertEqual(firsts(new(1, 1, 1, 1, 1, 1, 1, 1)), [-1])

    def test_a_size_of_none_or_nine(self):
        for size in (0, 9, 4294967295):
            self.assertEqual(firsts(new(size)), [-1])
            self.assertEqual(firsts(new(size, 1)), [-1])
            self.assertEqual(firsts(new(1, size)), [-1])

    def test_a_size_of_none_does_not_hide_a_great_one(self):
        self.assertEqual(firsts(new(0, 9)), [-1])
        self.assertEqual(firsts(new(8, 8, 8, 0)), [-1])

    def test_more_than_sixty_four_cells(self):
        # 70 is the least: each of 65 to 69 has a factor above 8.
        self.assertEqual(firsts(new(7, 5, 2)), [-1])
        self.assertEqual(firsts(new(3, 2, 2, 6)), [-1])
        self.assertEqual(firsts(new(8, 8, 2)), [-1])
        self.assertEqual(firsts(new(8, 8, 8, 8)), [-1])


class NewBeginsAnew(unittest.TestCase):
    def test_classes_rules_and_words_are_gone(self):
        filled = [new(2), group(), group(0), rule(0, 0, [0], 7), word(0, [1]), odd(0, [0], None)]
        self.assertEqual(firsts(*filled), [2, 0, 1, 0, 0, 0])
        self.assertEqual(last(*filled, new(2), rule(0, 0, [0], 7)), -2)
        self.assertEqual(last(*filled, new(2), drop(0)), -2)
        self.assertEqual(last(*filled, new(2), word(0, [1])), -2)
        self.assertEqual(last(*filled, new(2), plain(0, [0])), -2)
        again = firsts(*filled, new(2), group(), rule(0, 0, [0], 7), word(0, [1]), plain(0, [0]))
        self.assertEqual(again[6:], [2, 0, 0, 0, -3])

    def test_the_features_are_the_new_ones(self):
        calls = [new(2), group(), new(3, 4), group(), word(0, [1])]
        self.assertEqual(last(*calls, odd(0, [1], None)), -1)
        self.assertEqual(last(*calls, odd(0, [2, 3], None)), 0)

    def test_a_refused_new_changes_nothing(self):
        filled = [new(2), group(), rule(0, 0, [0], 7), word(0, [1]), odd(0, [1], [5])]
        for refused in (new(), new(9), new(8, 8, 2)):
            after = firsts(*filled, refused, group(0), drop(0), odd(0, [2], None), plain(0, [1]), word(0, [1]))
            self.assertEqual(after[5:], [-1, 1, 0, -1, 0, 1])


class WithoutFeatures(unittest.TestCase):
    CALLS = (
        group(), group(-2), rule(0, 0, [], 7), rule(9, 9, [1], 8), drop(0),
        word(0, [1]), word(0), odd(0, [], None), odd(0, [0], [1] * 65), plain(0, [0]), plain(0, []),
    )

    def test_all_calls_but_new_are_refused(self):
        self.assertEqual(firsts(*self.CALLS), [-4] * len(self.CALLS))

    def test_a_refused_new_brings_no_features(self):
        for one in self.CALLS:
            self.assertEqual(firsts(new(0), one), [-1, -4])

    def test_what_is_refused_is_not_kept(self):
        self.assertEqual(firsts(group(), new(2), group(0), group()), [-4, 2, -2, 0])


if __name__ == "__main__":
    unittest.main()
