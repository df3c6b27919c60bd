"""What stands in the cells of a word, and why.

What stands in a cell is a list: STANDS_NOTHING alone, STANDS_RING alone, or STANDS_FORM and the form's bytes.
"""

from formtablesyard.following import list_followed
from formtablesyard.forms import make_form
from formtablesyard.rules import NO_FORM

STANDS_NOTHING = 0
STANDS_FORM = 1
STANDS_RING = 2

ODD = 0
SAID_TO_BE_NONE = 1
MADE = 2
RING = 3


class Origin:
    """Why something stands in a cell: the reason, the cell that one comes to in the end, the rules on the way there."""

    def __init__(self, reason, cell, taken):
        self.reason = reason
        self.cell = cell
        self.taken = taken


def trace(language, followed, word, cell):
    """Where what stands in a cell of a word comes from, if its class follows these rules."""
    taken = []
    while cell not in word.odd_forms:
        number = followed[cell][0]
        if number is None:
            return Origin(MADE, cell, taken)
        taken.append(number)
        rule = language.rules[number]
        if rule.doing == NO_FORM:
            return Origin(SAID_TO_BE_NONE, cell, taken)
        # With one rule more than there are cells, one was in some cell before.
        if len(taken) > len(followed):
            return Origin(RING, cell, taken)
        cell = rule.sources[cell]
    return Origin(ODD, cell, taken)


def find_standing(language, followed, word, cell):
    """What stands in a cell of a word, if its class follows these rules."""
    origin = trace(language, followed, word, cell)
    if origin.reason == RING:
        return [STANDS_RING]
    if origin.reason == SAID_TO_BE_NONE:
        return [STANDS_NOTHING]
    if origin.reason == ODD:
        return tell_form(word.odd_forms[origin.cell])
    return tell_form(make_form(language.rules, word.stems, followed[origin.cell]))


def tell_form(form):
    """What stands where this form is, or None."""
    if form is None:
        return [STANDS_NOTHING]
    return [STANDS_FORM] + form


def list_standing(language, followed, word):
    """What stands in each cell of a word, if its class follows these rules."""
    return [find_standing(language, followed, word, cell) for cell in range(len(followed))]


def list_table(language, word):
    """What stands in each cell of a word."""
    return list_standing(language, list_followed(language, word.group), word)


def list_reasons(language, word, cell):
    """Why something stands in a cell of a word: the reason's number, then the rules' numbers."""
    followed = list_followed(language, word.group)
    origin = trace(language, followed, word, cell)
    told = [origin.reason] + origin.taken
    if origin.reason == MADE:
        told.extend([number for number in followed[origin.cell][1:] if number is not None])
    return told
