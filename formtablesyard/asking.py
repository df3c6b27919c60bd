"""The calls that ask something of a language, and change nothing."""

from formtablesyard.cells import is_cell, number_cell
from formtablesyard.following import list_followed
from formtablesyard.parts import find_parts
from formtablesyard.refusals import NOT_AS_ASKED, NOT_THERE, refuse_cell
from formtablesyard.stands import STANDS_FORM, find_standing, list_reasons, list_standing, list_table, tell_form
from formtablesyard.words import Word, are_stems


def call_form(language, told):
    number = told.take()
    values = told.take_list()
    refusal = refuse_cell(language, number, values)
    if refusal is not None:
        return [refusal]
    word = language.words[number]
    cell = number_cell(language.sizes, values)
    return find_standing(language, list_followed(language, word.group), word, cell)


def call_table(language, told):
    number = told.take()
    if not language.has_word(number):
        return [NOT_THERE]
    table = list_table(language, language.words[number])
    answered = [len(table)]
    for standing in table:
        answered.append(standing[0])
        if standing[0] == STANDS_FORM:
            answered.append(len(standing) - 1)
            answered.extend(standing[1:])
    return answered


def call_why(language, told):
    number = told.take()
    values = told.take_list()
    refusal = refuse_cell(language, number, values)
    if refusal is not None:
        return [refusal]
    return list_reasons(language, language.words[number], number_cell(language.sizes, values))


def call_alike(language, told):
    number = told.take()
    if not language.has_word(number):
        return [NOT_THERE]
    table = list_table(language, language.words[number])
    alike = [table.index(standing) for standing in table]
    return [len(set(alike))] + alike


def call_find(language, told):
    sought = tell_form(told.take_list())
    # Many words share a class, so what a class follows is listed once.
    followed = list_followed_by_all(language)
    found = []
    for number, word in enumerate(language.words):
        for cell, standing in enumerate(list_standing(language, followed[word.group], word)):
            if standing == sought:
                found.extend([number, cell])
    return [len(found) // 2] + found


def call_may(language, told):
    stems = told.take_lists()
    pairs = read_pairs(told)
    if not are_stems(stems) or not all([is_cell(language.sizes, values) for values, form in pairs]):
        return [NOT_AS_ASKED]
    asked = [(number_cell(language.sizes, values), tell_form(form)) for values, form in pairs]
    groups = []
    for group, followed in enumerate(list_followed_by_all(language)):
        word = Word(group, stems)
        if all([find_standing(language, followed, word, cell) == form for cell, form in asked]):
            groups.append(group)
    return [len(groups)] + groups


def call_parts(language, told):
    stems = told.take_lists()
    if not are_stems(stems):
        return [NOT_AS_ASKED]
    tables = [list_table(language, Word(group, stems)) for group in range(len(language.parents))]
    known_by = find_parts(tables, language.count_all_cells())
    return [len(known_by)] + known_by


def list_followed_by_all(language):
    """Of each class the rules that it follows."""
    return [list_followed(language, group) for group in range(len(language.parents))]


def read_pairs(told):
    """Pairs of a cell's values and a form's bytes, told as how many there are, then they."""
    pairs = []
    for k in range(told.take()):
        values = told.take_list()
        pairs.append((values, told.take_list()))
    return pairs


# By the calls' numbers, from 7 on.
ASKING = (call_form, call_table, call_why, call_alike, call_find, call_may, call_parts)
