"""Features, the cells that they make, and conditions on cells."""

ANY = -1
MOST_FEATURES = 4
MOST_VALUES = 8
MOST_CELLS = 64


def count_cells(sizes):
    """How many cells features of these sizes make."""
    cells = 1
    for size in sizes:
        cells *= size
    return cells


def are_sizes(sizes):
    """Whether features may have these sizes."""
    if len(sizes) < 1 or len(sizes) > MOST_FEATURES:
        return False
    for size in sizes:
        if size < 1 or size > MOST_VALUES:
            return False
    return count_cells(sizes) <= MOST_CELLS


def is_cell(sizes, values):
    """Whether there is one value for each feature, and the feature has it."""
    return ANY not in values and is_condition(sizes, values)


def is_condition(sizes, values):
    """Whether there is for each feature one of its values, or ANY."""
    if len(values) != len(sizes):
        return False
    for size, value in zip(sizes, values):
        if value < ANY or value >= size:
            return False
    return True


def number_cell(sizes, values):
    """The number of the cell with these values: the last feature goes fastest."""
    cell = 0
    for size, value in zip(sizes, values):
        cell = cell * size + value
    return cell


def list_cells(sizes):
    """The values of each cell, in the order of the cells' numbers."""
    cells = [[]]
    for size in sizes:
        longer = []
        for values in cells:
            longer.extend([values + [value] for value in range(size)])
        cells = longer
    return cells


def meets(values, condition):
    """Whether the cell with these values has those that the condition tells."""
    for value, asked in zip(values, condition):
        if asked != ANY and asked != value:
            return False
    return True


def count_fixed(condition):
    """How many values a condition tells."""
    return len(condition) - condition.count(ANY)


def put_values(values, told):
    """These values, with those that are told in their place."""
    return [own if other == ANY else other for own, other in zip(values, told)]
