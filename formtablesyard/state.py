"""What a language holds between its calls."""

from formtablesyard.cells import count_cells

NO_PARENT = -1


class Language:
    """Features' sizes, and by their numbers the classes' parents, the rules and the words."""

    def __init__(self):
        self.begin([])

    def begin(self, sizes):
        """Start anew with features of these sizes."""
        self.sizes = sizes
        self.parents = []
        self.rules = []
        self.words = []

    def has_features(self):
        """Whether features were told yet."""
        return len(self.sizes) > 0

    def has_group(self, group):
        """Whether there's a class with this number."""
        return 0 <= group < len(self.parents)

    def has_rule(self, rule):
        """Whether there's a rule with this number."""
        return 0 <= rule < len(self.rules)

    def has_word(self, word):
        """Whether there's a word with this number."""
        return 0 <= word < len(self.words)

    def count_all_cells(self):
        """How many cells there are."""
        return count_cells(self.sizes)

    def line(self, group):
        """A class, its parent, that one's parent and so on."""
        groups = []
        while group != NO_PARENT:
            groups.append(group)
            group = self.parents[group]
        return groups
