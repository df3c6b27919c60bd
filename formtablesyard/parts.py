"""The fewest cells by which tables are known from one another."""


def find_parts(tables, cells):
    """As few of the cells as can be by which any two tables that differ are known; of several such the first."""
    differences = list_differences(tables)
    for many in range(cells):
        choice = list(range(many))
        while choice is not None:
            if tells_apart(choice, differences):
                return choice
            choice = find_next_choice(choice, cells)
    return list(range(cells))


def list_differences(tables):
    """For any two tables that differ, the cells in which they do, each cell as a bit."""
    differences = []
    for place, table in enumerate(tables):
        for other in tables[:place]:
            bits = find_difference(table, other)
            if bits != 0 and bits not in differences:
                differences.append(bits)
    return differences


def find_difference(table, other):
    """The cells in which two tables differ, each as a bit."""
    bits = 0
    for cell in range(len(table)):
        if table[cell] != other[cell]:
            bits += 1 << cell
    return bits


def tells_apart(choice, differences):
    """Whether each difference has one of these cells."""
    bits = 0
    for cell in choice:
        bits += 1 << cell
    for difference in differences:
        if difference & bits == 0:
            return False
    return True


def find_next_choice(choice, cells):
    """The choice of as many cells, rising, that comes behind this one; None behind the last."""
    place = len(choice) - 1
    greatest = cells - 1
    while place >= 0 and choice[place] == greatest:
        place -= 1
        greatest -= 1
    if place < 0:
        return None
    first = choice[place] + 1
    return choice[:place] + list(range(first, first + len(choice) - place))
