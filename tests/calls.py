"""Telling calls, so that tests can say them by name."""

from formtablesyard.language import answers


def counted(numbers):
    return [len(numbers), *numbers]


def call(number, told):
    return [number, len(told), *told, 0]


def new(*sizes):
    return call(0, counted(sizes))


def group(parent=-1):
    return call(1, [parent])


def rule(cls, block, condition, *doing):
    return call(2, [cls, block, *counted(condition), *doing])


def drop(number):
    return call(3, [number])


def told_stems(stems):
    told = [len(stems)]
    for stem in stems:
        told += counted(stem)
    return told


def word(cls, *stems):
    return call(4, [cls, *told_stems(stems)])


def odd(number, cell, form):
    """form is a list of bytes, or None for no form."""
    told = [0] if form is None else [1, *counted(form)]
    return call(5, [number, *counted(cell), *told])


def plain(number, cell):
    return call(6, [number, *counted(cell)])


def form(number, cell):
    return call(7, [number, *counted(cell)])


def table(number):
    return call(8, [number])


def why(number, cell):
    return call(9, [number, *counted(cell)])


def alike(number):
    return call(10, [number])


def find(letters):
    return call(11, counted(letters))


def may(stems, *pairs):
    """Each of the pairs is a cell and a form's bytes."""
    told = [*told_stems(stems), len(pairs)]
    for cell, letters in pairs:
        told += [*counted(cell), *counted(letters)]
    return call(12, told)


def parts(*stems):
    return call(13, told_stems(stems))


def flat(calls):
    numbers = []
    for one in calls:
        numbers += one
    return numbers


def split(numbers):
    """The answers, one list each, of what answers gives back."""
    given = []
    place = 0
    while place < len(numbers):
        end = place + 1 + numbers[place]
        given.append(numbers[place + 1:end])
        place = end
    return given


def told_back(calls, asked):
    """What is answered to each of the calls that are asked, behind other calls."""
    given = split(answers(flat([*calls, *asked])))
    return given[len(calls):]


def firsts(*calls):
    """The first number that is answered to each call, where each answer has just one."""
    given = split(answers(flat(calls)))
    for one in given:
        if len(one) != 1:
            raise ValueError(f"an answer of more or less than one number: {one}")
    return [one[0] for one in given]


def last(*calls):
    """The one number that is answered to the last call."""
    return firsts(*calls)[-1]
