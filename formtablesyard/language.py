"""The calls on a language, and what is answered to them."""

from formtablesyard.asking import ASKING
from formtablesyard.cells import are_sizes, count_cells, number_cell
from formtablesyard.reader import Reader
from formtablesyard.refusals import FULL, NO_FEATURES, NOT_AS_ASKED, NOT_ODD, NOT_THERE, refuse_cell
from formtablesyard.rules import find_cells, is_sound, read_rule
from formtablesyard.state import NO_PARENT, Language
from formtablesyard.words import Word, are_stems, is_odd_form, read_odd_form

MOST_GROUPS = 16
MOST_RULES = 200
MOST_WORDS = 64

NEW = 0


def call_new(language, told):
    sizes = told.take_list()
    if not are_sizes(sizes):
        return [NOT_AS_ASKED]
    language.begin(sizes)
    return [count_cells(sizes)]


def call_group(language, told):
    parent = told.take()
    if parent != NO_PARENT and not language.has_group(parent):
        return [NOT_THERE]
    return keep(language.parents, parent, MOST_GROUPS)


def call_rule(language, told):
    group = told.take()
    block = told.take()
    if not language.has_group(group):
        return [NOT_THERE]
    rule = read_rule(group, block, told)
    if rule is None or not is_sound(language.sizes, rule):
        return [NOT_AS_ASKED]
    find_cells(language.sizes, rule)
    return keep(language.rules, rule, MOST_RULES)


def call_drop(language, told):
    rule = told.take()
    if not language.has_rule(rule):
        return [NOT_THERE]
    language.rules.pop(rule)
    return [len(language.rules)]


def call_word(language, told):
    group = told.take()
    stems = told.take_lists()
    if not language.has_group(group):
        return [NOT_THERE]
    if not are_stems(stems):
        return [NOT_AS_ASKED]
    return keep(language.words, Word(group, stems), MOST_WORDS)


def call_odd(language, told):
    number = told.take()
    values = told.take_list()
    form = read_odd_form(told)
    refusal = refuse_cell(language, number, values)
    if refusal is not None:
        return [refusal]
    if not is_odd_form(form):
        return [NOT_AS_ASKED]
    word = language.words[number]
    word.odd_forms[number_cell(language.sizes, values)] = form
    return [0]


def call_plain(language, told):
    number = told.take()
    values = told.take_list()
    refusal = refuse_cell(language, number, values)
    if refusal is not None:
        return [refusal]
    word = language.words[number]
    cell = number_cell(language.sizes, values)
    # An odd form may be None, so whether there's one is asked of the cell's number.
    if cell not in word.odd_forms:
        return [NOT_ODD]
    word.odd_forms.pop(cell)
    return [0]


def keep(kept, thing, most):
    """Put a thing behind those that are kept, and answer its number, unless there are as many as may be."""
    if len(kept) >= most:
        return [FULL]
    kept.append(thing)
    return [len(kept) - 1]


# By the calls' numbers; those that only ask come behind.
TELLING = (call_new, call_group, call_rule, call_drop, call_word, call_odd, call_plain)


def answer(language, call, told):
    """What is answered to one call."""
    if call != NEW and not language.has_features():
        return [NO_FEATURES]
    if call < len(TELLING):
        return TELLING[call](language, told)
    return ASKING[call - len(TELLING)](language, told)


def answers(calls):
    """What is answered to each call, with how many numbers it has ahead of it."""
    language = Language()
    reader = Reader(calls)
    answered = []
    while reader.left() > 0:
        call = reader.take()
        told = Reader(reader.take_list())
        # How many lists the call has: always 0, as all is told among its whole numbers.
        reader.take()
        given = answer(language, call, told)
        answered.append(len(given))
        answered.extend(given)
    return answered
