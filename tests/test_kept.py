"""What a language holds behind its answers: forms are made of it."""

import unittest

from formtablesyard.language import answer
from formtablesyard.reader import Reader
from formtablesyard.state import Language

from tests.calls import drop, group, new, odd, plain, rule, word


def carry_out(*calls):
    language = Language()
    for one in calls:
        answer(language, one[0], Reader(one[2:-1]))
    return language


class Kept(unittest.TestCase):
    def test_parents(self):
        self.assertEqual(carry_out(new(2), group(), group(0), group()).parents, [-1, 0, -1])

    def test_rules(self):
        rules = carry_out(
            new(2, 3), group(), group(), rule(1, 0, [0, -1], 6, 2, -1, 2), rule(0, 1, [-1, -1], 5, 3),
            rule(0, 5, [1, 2], 2, 4, 1, 97), rule(0, 2, [1, 2], 3, 2, 97, 98, 1, 99),
        ).rules
        held = [(one.group, one.block, one.condition, one.doing, one.number, one.lists) for one in rules]
        self.assertEqual(held, [
            (1, 0, [0, -1], 6, 0, [[-1, 2]]),
            (0, 1, [-1, -1], 5, 3, []),
            (0, 5, [1, 2], 2, 4, [[97]]),
            (0, 2, [1, 2], 3, 0, [[97, 98], [99]]),
        ])

    def test_the_rule_that_is_dropped(self):
        three = [new(2), group(), *[rule(0, 1, [-1], 5, j) for j in (1, 2, 3)]]
        for number, left in ((0, [2, 3]), (1, [1, 3]), (2, [1, 2])):
            self.assertEqual([one.number for one in carry_out(*three, drop(number)).rules], left)

    def test_words(self):
        words = carry_out(new(2), group(), group(), word(1, [97, 98], [], [99]), word(0, [1])).words
        self.assertEqual([(one.group, one.stems) for one in words], [(1, [[97, 98], [], [99]]), (0, [[1]])])

    def test_odd_forms_by_cells(self):
        told = [odd(0, [0, 2], [1]), odd(0, [1, 0], [2]), odd(0, [1, 2], None), odd(0, [0, 2], []), odd(0, [0, 1], [3])]
        calls = [new(2, 3), group(), word(0, [1]), *told, plain(0, [0, 1])]
        self.assertEqual(carry_out(*calls).words[0].odd_forms, {2: [], 3: [2], 5: None})


if __name__ == "__main__":
    unittest.main()
