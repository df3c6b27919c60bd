"""Words: their stems and their odd forms."""

MOST_STEMS = 4
MOST_STEM_BYTES = 32
MOST_ODD_BYTES = 64


class Word:
    """A word; odd_forms has, by a cell's number, the odd form's bytes, or None where no form is told."""

    def __init__(self, group, stems):
        self.group = group
        self.stems = stems
        self.odd_forms = {}


def are_stems(stems):
    """Whether a word may have these stems."""
    if len(stems) < 1 or len(stems) > MOST_STEMS:
        return False
    for stem in stems:
        if len(stem) > MOST_STEM_BYTES:
            return False
    return True


def read_odd_form(told):
    """The bytes of an odd form, or None where it is told that there's no form."""
    if told.take() == 0:
        return None
    return told.take_list()


def is_odd_form(form):
    """Whether this may stand in a cell as an odd form."""
    return form is None or len(form) <= MOST_ODD_BYTES
