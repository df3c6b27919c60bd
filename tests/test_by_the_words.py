"""Many lines of calls, with what is answered sought a second time, slowly and straight by the document's words."""

import itertools
import random
import unittest

from tests import calls as tell
from tests.calls import told_back

LETTERS = [97, 98, 99]


class Slow:
    """A language for which each answer is sought anew; a form is a tuple, no form None, a ring "ring"."""

    def __init__(self, sizes):
        self.sizes = sizes
        self.cells = list(itertools.product(*[range(size) for size in sizes]))
        self.parents = []
        self.rules = []
        self.words = []

    def line(self, cls):
        return [] if cls == -1 else [cls, *self.line(self.parents[cls])]

    def followed(self, cls, block, cell):
        best = None
        for number, (owner, where, condition, doing) in enumerate(self.rules):
            met = all(told in (-1, value) for told, value in zip(condition, cell))
            if where == block and met and owner in self.line(cls):
                fixes = sum(told != -1 for told in condition)
                rank = (fixes, -self.line(cls).index(owner), number)
                best = rank if best is None else max(best, rank)
        return None if best is None else best[2]

    def taken_from(self, number, cell):
        return tuple(value if told == -1 else told for told, value in zip(self.rules[number][3][1], cell))

    def made(self, cls, stems, cell):
        number = self.followed(cls, 1, cell)
        j = 0 if number is None else self.rules[number][3][1]
        form = tuple(stems[j]) if j < len(stems) else None
        for block in (2, 3, 4, 5):
            number = self.followed(cls, block, cell)
            if form is not None and number is not None:
                form = changed(form, *self.rules[number][3])
        return form

    def stands(self, word, cell, seen=()):
        cls, stems, odd = word
        if cell in odd:
            return odd[cell]
        if cell in seen:
            return "ring"
        number = self.followed(cls, 0, cell)
        if number is None:
            return self.made(cls, stems, cell)
        if self.rules[number][3][0] == 7:
            return None
        return self.stands(word, self.taken_from(number, cell), (*seen, cell))

    def why(self, word, cell):
        cls, stems, odd = word
        rules = []
        while len(rules) <= len(self.cells):
            if cell in odd:
                return [0, *rules]
            number = self.followed(cls, 0, cell)
            if number is None:
                later = [self.followed(cls, block, cell) for block in (1, 2, 3, 4, 5)]
                return [2, *rules, *[one for one in later if one is not None]]
            rules.append(number)
            if self.rules[number][3][0] == 7:
                return [1, *rules]
            cell = self.taken_from(number, cell)
        return [3, *rules]

    def table(self, word):
        return [self.stands(word, cell) for cell in self.cells]

    def alike(self, word):
        table = self.table(word)
        return [len(set(table)), *[table.index(one) for one in table]]

    def find(self, letters):
        found = []
        for number, word in enumerate(self.words):
            for k, one in enumerate(self.table(word)):
                if one == tuple(letters):
                    found += [(number, k)]
        return [len(found), *itertools.chain(*found)]

    def may(self, stems, pairs):
        classes = []
        for cls in range(len(self.parents)):
            if all(self.stands((cls, stems, {}), cell) == tuple(letters) for cell, letters in pairs):
                classes.append(cls)
        return [len(classes), *classes]

    def parts(self, stems):
        tables = [self.table((cls, stems, {})) for cls in range(len(self.parents))]
        for many in range(len(self.cells) + 1):
            for choice in itertools.combinations(range(len(self.cells)), many):
                if all(
                    one == other or any(one[cell] != other[cell] for cell in choice)
                    for one in tables for other in tables
                ):
                    return [many, *choice]


def changed(form, doing, *told):
    if doing == 0:
        return form + tuple(told[0])
    if doing == 1:
        return tuple(told[0]) + form
    if doing == 2:
        k, letters = told
        return None if len(form) < k else form[:len(form) - k] + tuple(letters)
    if doing == 3:
        places = [place for place, letter in enumerate(form) if letter in told[0]]
        return form[:places[-1]] + tuple(told[1]) + form[places[-1] + 1:] if places else form
    return None if len(form) < told[0] else form[:told[0]] + form


def answered(standing):
    if standing is None:
        return [0]
    return [2] if standing == "ring" else [1, *standing]


def told_table(table):
    told = [len(table)]
    for one in table:
        told += answered(one) if one in (None, "ring") else [1, len(one), *one]
    return told


class Line:
    """A line of calls that is drawn, and what is to be answered to each."""

    def __init__(self, seed):
        self.draw = random.Random(seed)
        sizes = self.draw.choice([(1,), (3,), (2, 2), (2, 3), (4, 2), (2, 2, 3), (2, 1, 2, 2)])
        self.slow = Slow(sizes)
        self.calls = [tell.new(*sizes)]
        self.expected = [[len(self.slow.cells)]]

    def letters(self, most):
        return [self.draw.choice(LETTERS) for k in range(self.draw.randint(0, most))]

    def condition(self):
        return [self.draw.choice([-1, -1, *range(size)]) for size in self.slow.sizes]

    def cell(self):
        return self.draw.choice(self.slow.cells)

    def stems(self):
        return [self.letters(3) for k in range(self.draw.randint(1, 3))]

    def add(self, call, expected):
        self.calls.append(call)
        self.expected.append(expected)

    def add_group(self):
        parent = self.draw.randint(-1, len(self.slow.parents) - 1)
        self.slow.parents.append(parent)
        self.add(tell.group(parent), [len(self.slow.parents) - 1])

    def add_rule(self):
        cls = self.draw.randrange(len(self.slow.parents))
        block = self.draw.choice([0, 0, 1, 2, 3, 4, 5])
        condition = self.condition()
        if block == 0:
            doing = self.draw.choice([(7,), (6, self.condition()), (6, self.condition())])
        elif block == 1:
            doing = (5, self.draw.randint(0, 3))
        else:
            doing = self.draw.choice([
                (0, self.letters(2)), (1, self.letters(2)), (2, self.draw.randint(0, 4), self.letters(2)),
                (3, self.letters(2), self.letters(2)), (4, self.draw.randint(0, 4)),
            ])
        told = []
        for one in doing:
            told += tell.counted(one) if isinstance(one, list) else [one]
        self.slow.rules.append((cls, block, condition, doing))
        self.add(tell.rule(cls, block, condition, *told), [len(self.slow.rules) - 1])

    def add_drop(self):
        if self.slow.rules:
            number = self.draw.randrange(len(self.slow.rules))
            self.slow.rules.pop(number)
            self.add(tell.drop(number), [len(self.slow.rules)])

    def add_word(self):
        cls = self.draw.randrange(len(self.slow.parents))
        stems = self.stems()
        self.slow.words.append((cls, stems, {}))
        self.add(tell.word(cls, *stems), [len(self.slow.words) - 1])

    def add_odd(self):
        number = self.draw.randrange(len(self.slow.words))
        cell = self.cell()
        odd = self.slow.words[number][2]
        if self.draw.random() < 0.4:
            self.add(tell.plain(number, cell), [0 if cell in odd else -3])
            odd.pop(cell, None)
        else:
            letters = self.draw.choice([None, self.letters(3)])
            odd[cell] = None if letters is None else tuple(letters)
            self.add(tell.odd(number, cell, letters), [0])

    def add_questions(self):
        slow = self.slow
        # A line has 200 calls at the most, so not every word is asked after.
        for number in self.draw.sample(range(len(slow.words)), min(3, len(slow.words))):
            word = slow.words[number]
            for cell in slow.cells:
                self.add(tell.form(number, cell), answered(slow.stands(word, cell)))
                self.add(tell.why(number, cell), slow.why(word, cell))
            self.add(tell.table(number), told_table(slow.table(word)))
            self.add(tell.alike(number), slow.alike(word))
        stems = self.stems()
        tables = [slow.table((cls, stems, {})) for cls in range(len(slow.parents))]
        forms = [form for table in tables for form in table if isinstance(form, tuple)]
        for letters in [(), self.letters(2), *self.draw.sample(forms, min(2, len(forms)))]:
            self.add(tell.find(letters), slow.find(letters))
        self.add(tell.parts(*stems), slow.parts(stems))
        self.add(tell.may(stems), slow.may(stems, []))
        for k in range(3):
            cells = [self.cell() for cell in range(self.draw.randint(1, 3))]
            table = dict(zip(slow.cells, self.draw.choice(tables)))
            pairs = [(cell, table[cell] if isinstance(table[cell], tuple) else self.letters(1)) for cell in cells]
            self.add(tell.may(stems, *pairs), slow.may(stems, pairs))


class ByTheWords(unittest.TestCase):
    def test_lines_of_calls(self):
        for seed in range(150):
            line = Line(seed)
            line.add_group()
            line.add_word()
            for k in range(line.draw.randint(0, 25)):
                line.draw.choice([
                    line.add_group, line.add_rule, line.add_rule, line.add_rule, line.add_drop, line.add_word,
                    line.add_odd, line.add_odd,
                ])()
            line.add_questions()
            self.assertLessEqual(len(line.calls), 200)
            for call, given, expected in zip(line.calls, told_back([], line.calls), line.expected, strict=True):
                self.assertEqual(given, expected, f"seed {seed}, call {call}")


if __name__ == "__main__":
    unittest.main()
