"""Promise 2: group."""

import unittest

from tests.calls import firsts, group, new, rule, word


class Group(unittest.TestCase):
    def test_numbers_rise_from_none(self):
        self.assertEqual(firsts(new(2), group(), group(0), group(1), group(0), group()), [2, 0, 1, 2, 3, 4])

    def test_a_parent_must_be_told_before(self):
        self.assertEqual(firsts(new(2), group(0), group(), group(1), group(0)), [2, -2, 0, -2, 1])
        self.assertEqual(firsts(new(2), group(2147483647)), [2, -2])

    def test_a_parent_below_minus_one(self):
        self.assertEqual(firsts(new(2), group(), group(-2), group(-2147483648), group(-1)), [2, 0, -2, -2, 1])

    def test_the_sixteenth_and_the_seventeenth(self):
        self.assertEqual(firsts(new(2), *[group()] * 18), [2, *range(16), -5, -5])

    def test_a_wrong_parent_is_told_ahead_of_too_many(self):
        full = [new(2), *[group()] * 16]
        after = firsts(*full, group(16), group(-2), group(15), group(0))
        self.assertEqual(after[17:], [-2, -2, -5, -5])

    def test_a_refused_class_is_not_kept(self):
        after = firsts(new(2), *[group()] * 17, rule(16, 0, [0], 7), word(16, [1]), rule(15, 0, [0], 7), word(15, [1]))
        self.assertEqual(after[17:], [-5, -2, -2, 0, 0])


if __name__ == "__main__":
    unittest.main()
