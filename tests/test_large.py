"""Lists of calls as large as the document lets them be."""

import unittest

from formtablesyard.language import answers

from tests.calls import alike, find, flat, form, group, may, new, parts, rule, split, table, why, word

LINE_OF_16 = [group(), *[group(parent) for parent in range(15)]]


def cell_of(number):
    return [number // 8, number % 8]


def given(calls):
    """What is answered to each call, of a list that is within the document's bounds."""
    handed = flat(calls)
    if len(calls) > 200 or len(handed) > 30000:
        raise ValueError("more than may be handed in")
    before = list(handed)
    answered = answers(handed)
    if len(answered) - len(calls) >= 1000000 or handed != before or answers(handed) != answered:
        raise ValueError("not as the document says of any list")
    return split(answered)


class Large(unittest.TestCase):
    def test_64_cells_16_classes_in_a_line_and_64_words(self):
        # Two classes side by side put letters into the same cells: the one with the greater number comes first.
        rules = [rule(cls, 2, [-1, cls // 2], 0, 1, cls) for cls in range(16)]
        rules += [rule(cls, 3, [cls // 2, -1], 0, 1, 100 + cls) for cls in range(16)]
        rules += [rule(0, 4, cell_of(k), 0, 1, k) for k in range(64)]
        calls = [new(8, 8), *LINE_OF_16, *rules, *[word(15, [200]) for k in range(64)]]
        forms = [[200, 2 * (k % 8) + 1, 101 + 2 * (k // 8), k] for k in range(64)]
        whole = [64]
        for one in forms:
            whole += [1, 4, *one]
        asked = [
            table(0), table(63), alike(0), find(forms[63]), why(63, [7, 7]), form(0, [3, 5]), alike(63), find([200]),
            may([[200]], ([7, 7], forms[63])), find([200, 1, 101, 0]),
        ]
        expected = [
            whole, whole, [64, *range(64)], [64, *[number for k in range(64) for number in (k, 63)]], [2, 15, 31, 95],
            [1, *forms[29]], [64, *range(64)], [0], [1, 15], [64, *[number for k in range(64) for number in (k, 0)]],
        ]
        self.assertEqual(given([*calls, *asked])[len(calls):], expected)

    def test_a_way_through_all_64_cells(self):
        rules = [rule(0, 0, cell_of(k), 6, 2, *cell_of(k + 1)) for k in range(63)]
        rules += [rule(15, 2, [-1, -1], 0, 1, 9), rule(15, 3, [7, 7], 1, 1, 8)]
        calls = [new(8, 8), *LINE_OF_16, *rules, *[word(15, [k]) for k in range(64)]]
        asked = [table(5), alike(63), find([8, 7, 9]), why(0, [0, 0]), why(0, [7, 7])]
        self.assertEqual(given([*calls, *asked])[len(calls):], [
            [64, *[1, 3, 8, 5, 9] * 64],
            [1, *[0] * 64],
            [64, *[number for cell in range(64) for number in (7, cell)]],
            [2, *range(63), 63, 64],
            [2, 63, 64],
        ])

    def test_a_ring_of_all_64_cells(self):
        rules = [rule(0, 0, cell_of(k), 6, 2, *cell_of((k + 1) % 64)) for k in range(64)]
        calls = [new(8, 8), *LINE_OF_16, *rules, *[word(k % 16, [k]) for k in range(64)]]
        asked = [table(0), alike(63), find([0]), why(7, [0, 0]), why(7, [7, 7]), *[find([k]) for k in range(20)]]
        expected = [
            [64, *[2] * 64],
            [1, *[0] * 64],
            [0],
            [3, *range(64), 0],
            [3, 63, *range(64)],
            *[[0]] * 20,
        ]
        self.assertEqual(given([*calls, *asked])[len(calls):], expected)

    def test_as_many_rules_as_a_line_can_tell(self):
        # Each rule is told over again, and the last of those that fix most is followed.
        conditions = [[-1, -1], [3, -1], [-1, 3], [3, 3]]
        rules = [rule(k % 16, 2 + k // 4 % 4, conditions[k % 4], 0, 1, k) for k in range(176)]
        calls = [new(8, 8), *LINE_OF_16, *rules, word(15, [250])]
        asked = [form(0, [3, 3]), form(0, [0, 0]), form(0, [3, 0]), form(0, [0, 3]), why(0, [3, 3]), alike(0)]
        # Block 2 + b has the rules k with k % 16 from 4b to 4b + 3, one condition for each class.
        last = [[160 + 4 * b + which for b in range(4)] for which in range(4)]
        first_of_group = [0] * 64
        for k in range(64):
            row, column = cell_of(k)
            first_of_group[k] = {(0, 0): 0, (0, 1): 3, (1, 0): 24, (1, 1): 27}[(int(row == 3), int(column == 3))]
        self.assertEqual(given([*calls, *asked])[len(calls):], [
            [1, 250, *last[3]],
            [1, 250, *last[0]],
            [1, 250, *last[1]],
            [1, 250, *last[2]],
            [2, *last[3]],
            [4, *first_of_group],
        ])

    def test_the_longest_forms_in_all_cells_many_times(self):
        rules = [rule(0, block, [-1, -1, -1, -1], 0, 16, *[block] * 16) for block in (2, 3, 4, 5)]
        calls = [new(2, 4, 8, 1), group(), *rules, word(0, [1] * 32)]
        longest = [1] * 32 + [2] * 16 + [3] * 16 + [4] * 16 + [5] * 16
        asked = [table(0)] * 150
        expected = [[64, *[1, 96, *longest] * 64]] * 150
        self.assertEqual(given([*calls, *asked])[len(calls):], expected)

    def test_a_long_may(self):
        pairs = [(cell_of(k % 64), [1] * 100) for k in range(99)]
        calls = [new(8, 8), *LINE_OF_16]
        self.assertEqual(given([*calls, may([[1] * 32] * 4, *pairs), may([[1] * 32], *pairs)])[17:], [[0], [0]])
        pairs = [(cell_of(k % 64), [1] * 32) for k in range(100)]
        self.assertEqual(given([*calls, may([[1] * 32] * 4, *pairs)])[17:], [[16, *range(16)]])

    def test_parts_of_12_cells_and_16_classes(self):
        groups = [group() for k in range(16)]
        # Class k differs from class 0 in cell k - 1 alone, so all 12 cells are needed.
        rules = [rule(k, 0, [(k - 1) // 4, (k - 1) % 4], 7) for k in range(1, 13)]
        calls = [new(3, 4), *groups, *rules]
        self.assertEqual(given([*calls, *[parts([1] * 32)] * 20])[len(calls):], [[12, *range(12)]] * 20)

    def test_parts_of_12_cells_with_the_last_four(self):
        # In the last four cells class k has the four bits of k, so that no three cells are enough.
        rules = []
        for k in range(16):
            rules += [rule(k, 2, [2, bit // 2, bit % 2], 0, 1, 1) for bit in range(4) if k >> bit & 1]
        calls = [new(3, 2, 2), *[group() for k in range(16)], *rules]
        self.assertEqual(given([*calls, parts([5])])[len(calls):], [[4, 8, 9, 10, 11]])

    def test_a_long_list_of_stems(self):
        stems = [[7] * 100] * 100
        calls = [new(2), group()]
        self.assertEqual(given([*calls, parts(*stems), may(stems)])[2:], [[-1], [-1]])


if __name__ == "__main__":
    unittest.main()
