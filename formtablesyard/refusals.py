"""The numbers by which a call is refused, and what several calls are refused for."""

from formtablesyard.cells import is_cell

NOT_AS_ASKED = -1
NOT_THERE = -2
NOT_ODD = -3
NO_FEATURES = -4
FULL = -5


def refuse_cell(language, word, values):
    """Why one can't speak of this cell of this word, or None if one can."""
    if not language.has_word(word):
        return NOT_THERE
    if not is_cell(language.sizes, values):
        return NOT_AS_ASKED
    return None
