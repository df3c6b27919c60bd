"""Telling calls, so that tests can say them by name."""

from formtablesyard.language import answers


def counted(numbers):
    return [len(numbers), *numbers]


def call(number, told):
    return [number, len(told), *told, 0]


def new(*sizes):
    return call(0, counted(sizes))


def group(parent=-1):
    return call(1, [parent])


def rule(cls, block, condition, *doing):
    return call(2, [cls, block, *counted(condition), *doing])


def drop(number):
    return call(3, [number])


def told_stems(stems):
    told = [len(stems)]
    for stem in stems:
        told += counted(stem)
    return told


def word(cls, *stems):
    return call(4, [cls, *told_stems(stems)])


def odd(number, cell, form):
    """form is a list of bytes, or None for no form."""
    told = [0] if form is None else [1, *counted(form)]
    return call(5, [number, *counted(cell), *told])


def plain(number, cell):
    return call(6, [number, *counted(cell)])


def flat(calls):
    numbers = []
    for one in calls:
        numbers += one
    return numbers


def split(numbers):
    """The answers, one list each, of what answers gives back."""
    parts = []
    place = 0
    while place < len(numbers):
        end = place + 1 + numbers[place]
        parts.append(numbers[place + 1:end])
        place = end
    return parts


def firsts(*calls):
    """The first number that is answered to each call, where each answer has just one."""
    parts = split(answers(flat(calls)))
    for part in parts:
        if len(part) != 1:
            raise ValueError(f"an answer of more or less than one number: {part}")
    return [part[0] for part in parts]


def last(*calls):
    """The one number that is answered to the last call."""
    return firsts(*calls)[-1]
