"""Making a form from stems by the rules that are followed in blocks 1 to 5.

A form is a list of bytes, or None where it can't be made.
"""


def put_behind(form, rule):
    return form + rule.lists[0]


def put_ahead(form, rule):
    return rule.lists[0] + form


def change_end(form, rule):
    left = len(form) - rule.number
    if left < 0:
        return None
    return form[:left] + rule.lists[0]


def change_last_of(form, rule):
    place = len(form) - 1
    while place >= 0 and form[place] not in rule.lists[0]:
        place -= 1
    if place < 0:
        return form
    return form[:place] + rule.lists[1] + form[place + 1:]


def repeat_start(form, rule):
    if len(form) < rule.number:
        return None
    return form[:rule.number] + form


# By the numbers of what rules do, PUT_BEHIND to REPEAT_START.
CHANGES = (put_behind, put_ahead, change_end, change_last_of, repeat_start)


def make_form(rules, stems, followed):
    """The form that these stems have in a cell, with the numbers of the rules that are followed there by blocks."""
    form = find_stem(rules, stems, followed[1])
    for number in followed[2:]:
        if form is not None and number is not None:
            rule = rules[number]
            form = CHANGES[rule.doing](form, rule)
    return form


def find_stem(rules, stems, number):
    """The stem that the rule followed in block 1 tells; stem 0 if there's no such rule."""
    if number is None:
        return stems[0]
    stem = rules[number].number
    if stem >= len(stems):
        return None
    return stems[stem]
