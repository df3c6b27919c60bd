"""Promise 5: odd and plain."""

import unittest

from tests.calls import firsts, group, last, new, odd, plain, word

START = [new(2, 3), group(), word(0, [97]), word(0, [98])]
NO_CELLS = ([], [0], [0, 0, 0], [2, 0], [0, 3], [1, 4294967295], [4294967295, 0], [0] * 100)


class Odd(unittest.TestCase):
    def test_every_cell_may_be_odd(self):
        cells = [[a, b] for a in range(2) for b in range(3)]
        self.assertEqual(firsts(*START, *[odd(0, cell, [1, 2]) for cell in cells])[4:], [0] * 6)

    def test_how_long_a_form_may_be(self):
        for form in ([], [255], [0] * 64, None):
            self.assertEqual(last(*START, odd(0, [1, 2], form)), 0)
        for form in ([0] * 65, [0] * 100):
            self.assertEqual(last(*START, odd(0, [1, 2], form)), -1)

    def test_no_such_word(self):
        for number in (2, 4294967295):
            self.assertEqual(last(*START, odd(number, [0, 0], [1])), -2)
            self.assertEqual(last(*START, odd(number, [0, 0], None)), -2)

    def test_no_cell(self):
        for cell in NO_CELLS:
            self.assertEqual(last(*START, odd(0, cell, [1])), -1)
            self.assertEqual(last(*START, odd(0, cell, None)), -1)

    def test_of_several_refusals_the_first(self):
        self.assertEqual(last(*START, odd(2, [0], [1])), -2)
        self.assertEqual(last(*START, odd(2, [0, 0], [1] * 65)), -2)
        self.assertEqual(last(*START, odd(0, [0], [1] * 65)), -1)

    def test_a_refused_odd_form_is_not_kept(self):
        self.assertEqual(firsts(*START, odd(0, [0, 0], [1] * 65), plain(0, [0, 0]))[4:], [-1, -3])

    def test_a_refused_odd_form_leaves_the_one_before(self):
        calls = [*START, odd(0, [0, 0], [1]), odd(0, [0, 0], [1] * 65), plain(0, [0, 0]), plain(0, [0, 0])]
        self.assertEqual(firsts(*calls)[4:], [0, -1, 0, -3])


class Plain(unittest.TestCase):
    def test_once_and_once_more(self):
        for form in ([1], [], None, [0] * 64):
            after = firsts(*START, plain(0, [1, 1]), odd(0, [1, 1], form), plain(0, [1, 1]), plain(0, [1, 1]))
            self.assertEqual(after[4:], [-3, 0, 0, -3])

    def test_a_second_odd_form_takes_the_firsts_place(self):
        calls = [odd(0, [1, 1], [1]), odd(0, [1, 1], None), odd(0, [1, 1], [2]), plain(0, [1, 1]), plain(0, [1, 1])]
        self.assertEqual(firsts(*START, *calls)[4:], [0, 0, 0, 0, -3])

    def test_other_cells_and_other_words_stay(self):
        cells = [[a, b] for a in range(2) for b in range(3)]
        for cell in cells:
            asked = [plain(number, one) for number in (1, 0) for one in cells]
            after = firsts(*START, odd(0, cell, [1]), *asked)
            self.assertEqual(after[5:11], [-3] * 6)
            self.assertEqual(after[11:], [0 if one == cell else -3 for one in cells])

    def test_an_odd_form_may_come_again(self):
        calls = [odd(0, [0, 2], [1]), plain(0, [0, 2]), odd(0, [0, 2], [1]), plain(0, [0, 2])]
        self.assertEqual(firsts(*START, *calls)[4:], [0, 0, 0, 0])

    def test_no_such_word(self):
        for number in (2, 4294967295):
            self.assertEqual(last(*START, plain(number, [0, 0])), -2)

    def test_no_cell(self):
        for cell in NO_CELLS:
            self.assertEqual(last(*START, plain(0, cell)), -1)

    def test_of_several_refusals_the_first(self):
        self.assertEqual(last(*START, plain(2, [0])), -2)
        self.assertEqual(last(*START, plain(2, [0, 0])), -2)
        self.assertEqual(last(*START, plain(0, [0])), -1)

    def test_a_refused_plain_takes_nothing_away(self):
        calls = [odd(0, [0, 0], [1]), plain(2, [0, 0]), plain(0, [0]), plain(0, [0, 1]), plain(0, [0, 0])]
        self.assertEqual(firsts(*START, *calls)[4:], [0, -2, -1, -3, 0])


if __name__ == "__main__":
    unittest.main()
