"""Promise 4: word."""

import unittest

from tests.calls import firsts, group, last, new, odd, plain, word

START = [new(2), group(), group(0)]


class Word(unittest.TestCase):
    def test_numbers_rise_from_none(self):
        words = [word(0, [97]), word(1, [97, 98], [99]), word(0, [97])]
        self.assertEqual(firsts(*START, *words), [2, 0, 1, 0, 1, 2])

    def test_one_stem_and_four(self):
        self.assertEqual(last(*START, word(0, [97])), 0)
        self.assertEqual(last(*START, word(0, [97], [98], [99], [100])), 0)

    def test_no_stem_and_five(self):
        self.assertEqual(last(*START, word(0)), -1)
        self.assertEqual(last(*START, word(0, [1], [2], [3], [4], [5])), -1)
        self.assertEqual(last(*START, word(0, *[[1] * 100] * 100)), -1)

    def test_an_empty_stem(self):
        self.assertEqual(last(*START, word(0, [])), 0)
        self.assertEqual(last(*START, word(0, [], [], [], [])), 0)

    def test_thirty_two_bytes_and_thirty_three(self):
        self.assertEqual(last(*START, word(0, [255] * 32)), 0)
        self.assertEqual(last(*START, word(0, [0] * 32, [1] * 32, [2] * 32, [3] * 32)), 0)
        self.assertEqual(last(*START, word(0, [255] * 33)), -1)
        for place in range(4):
            stems = [[1], [2], [3], [4]]
            stems[place] = [5] * 33
            self.assertEqual(last(*START, word(0, *stems)), -1)

    def test_no_such_class(self):
        for cls in (2, 4294967295):
            self.assertEqual(last(*START, word(cls, [97])), -2)

    def test_the_sixty_fourth_and_the_sixty_fifth(self):
        self.assertEqual(firsts(*START, *[word(0, [1])] * 66)[3:], [*range(64), -5, -5])

    def test_of_several_refusals_the_first(self):
        full = [*START, *[word(0, [1])] * 64]
        self.assertEqual(last(*START, word(2)), -2)
        self.assertEqual(last(*full, word(2, [1])), -2)
        self.assertEqual(last(*full, word(2)), -2)
        self.assertEqual(last(*full, word(1)), -1)
        self.assertEqual(last(*full, word(1, [1] * 33)), -1)

    def test_a_refused_word_is_not_kept(self):
        after = firsts(*START, word(2, [1]), word(0), word(0, [1] * 33), odd(0, [0], None), word(0, [1]))
        self.assertEqual(after[3:], [-2, -1, -1, -2, 0])
        full = [*START, *[word(0, [1])] * 65]
        self.assertEqual(firsts(*full, odd(64, [0], None), odd(63, [0], None))[67:], [-5, -2, 0])

    def test_a_word_begins_without_odd_forms(self):
        calls = [*START, word(0, [1]), odd(0, [0], [5]), odd(0, [1], [5]), word(0, [1])]
        self.assertEqual(firsts(*calls, plain(1, [0]), plain(1, [1]))[7:], [-3, -3])


if __name__ == "__main__":
    unittest.main()
