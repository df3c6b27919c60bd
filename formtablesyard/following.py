"""Which rules are followed where."""

from formtablesyard.cells import count_fixed

BLOCKS = 6


def list_followed(language, group):
    """For each cell, by blocks, the number of the rule that a class follows there; None where it follows none."""
    followed = [[None] * BLOCKS for cell in range(language.count_all_cells())]
    # A rule that goes ahead of others comes behind them here, and takes their place.
    for number in list_weakest_first(language, group):
        rule = language.rules[number]
        for cell in rule.cells:
            followed[cell][rule.block] = number
    return followed


def list_weakest_first(language, group):
    """The numbers of the rules that a class has; of any two the one that goes ahead of the other comes later."""
    rules = language.rules
    line = language.line(group)
    numbers = [number for number, rule in enumerate(rules) if rule.group in line]
    # Equals stay in the order in which they were told.
    return sorted(numbers, key=lambda number: rank(rules[number], line))


def rank(rule, line):
    """How far a rule goes ahead of others, whenever they were told."""
    return (count_fixed(rule.condition), -line.index(rule.group))
