"""Rules: to which class and block they belong, and what they do."""

from formtablesyard.cells import is_condition, list_cells, meets, number_cell, put_values

PUT_BEHIND = 0
PUT_AHEAD = 1
CHANGE_END = 2
CHANGE_LAST_OF = 3
REPEAT_START = 4
CHOOSE_STEM = 5
TAKE_FROM_CELL = 6
NO_FORM = 7

# One entry for each of the doings above, in their order.
FIRST_BLOCKS = (2, 2, 2, 2, 2, 1, 0, 0)
LAST_BLOCKS = (5, 5, 5, 5, 5, 1, 0, 0)
GREATEST_NUMBERS = (None, None, 8, None, 8, 3, None, None)
LIST_COUNTS = (1, 1, 1, 2, 0, 0, 1, 0)

MOST_LIST_BYTES = 16


class Rule:
    """A rule as it was told, and the cells that it's about.

    number is its k or j, lists are its bytes or the condition of TAKE_FROM_CELL; cells are those that meet its
    condition, sources tells of each of them the cell that it's taken from, if it's a rule of TAKE_FROM_CELL.
    """

    def __init__(self, group, block, condition, doing):
        self.group = group
        self.block = block
        self.condition = condition
        self.doing = doing
        self.number = 0
        self.lists = []
        self.cells = []
        self.sources = {}


def read_rule(group, block, told):
    """The rule that is told, or None if its numbers don't make up a rule."""
    condition = told.take_list()
    doing = told.take()
    if doing < PUT_BEHIND or doing > NO_FORM:
        return None
    rule = Rule(group, block, condition, doing)
    if GREATEST_NUMBERS[doing] is not None:
        rule.number = told.take()
    for k in range(LIST_COUNTS[doing]):
        rule.lists.append(told.take_list())
    if not told.all_taken():
        return None
    return rule


def is_sound(sizes, rule):
    """Whether a rule that was read may be kept, with features of these sizes."""
    if not is_condition(sizes, rule.condition):
        return False
    if rule.block < FIRST_BLOCKS[rule.doing] or rule.block > LAST_BLOCKS[rule.doing]:
        return False
    return fits_number(rule) and fit_lists(sizes, rule)


def fits_number(rule):
    """Whether the rule's k or j, if it has one, is small enough."""
    greatest = GREATEST_NUMBERS[rule.doing]
    return greatest is None or 0 <= rule.number <= greatest


def fit_lists(sizes, rule):
    """Whether the rule's bytes are few enough, or the cell that it names can be there."""
    if rule.doing == TAKE_FROM_CELL:
        return is_condition(sizes, rule.lists[0])
    for part in rule.lists:
        if len(part) > MOST_LIST_BYTES:
            return False
    return True


def find_cells(sizes, rule):
    """Note in a sound rule which cells it's about, so that this isn't sought anew for each question."""
    for cell, values in enumerate(list_cells(sizes)):
        if meets(values, rule.condition):
            rule.cells.append(cell)
            if rule.doing == TAKE_FROM_CELL:
                rule.sources[cell] = number_cell(sizes, put_values(values, rule.lists[0]))
