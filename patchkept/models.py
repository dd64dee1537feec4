"""Values as numbers, so that equal parts of a value are built and looked at once.

A value is a row: a leaf is the value itself, a list `("list", numbers)`, and an object `("object", pairs)` with
pairs of a name and a number, in ascending order of the names. The parts of a value have lower numbers than it has.
"""

from patchkept.nodes import kind_asked


def leaf_fits(row, word, argument):
    """Return True if the formula of a word without a formula within it holds at the row, which is of its kind."""
    if word == "kind":
        return True
    if word == "bool_is" or word == "text_is":
        return row[1] == argument
    if word == "int_from":
        return row[1] >= argument
    return len(row[1]) >= argument


def parts_asked(row, word, argument):
    """Return the numbers of the parts of a row that an at, an each_item or an each_field of its kind asks."""
    if word == "each_item":
        return list(row[1][argument:])
    if word == "each_field":
        return [number for name, number in row[1] if name not in argument]
    if row[0] == "list":
        return list(row[1][argument:argument + 1])
    return [number for name, number in row[1] if name == argument]


class Models:
    """The values that have been given numbers, and which formulas of the nodes hold at them."""

    def __init__(self, nodes):
        self.nodes = nodes
        self.rows = []
        self.numbers = {}
        self.answers = {}

    def number_of(self, row):
        """Return the number of a row."""
        if row not in self.numbers:
            self.numbers[row] = len(self.rows)
            self.rows.append(row)
        return self.numbers[row]

    def part_numbers(self, number):
        """Return the list of the numbers of the parts of a value."""
        kind, content = self.rows[number][0], self.rows[number][1:]
        if kind == "list":
            return list(content[0])
        return [part for _, part in content[0]] if kind == "object" else []

    def numbers_within(self, number):
        """Return the numbers of a value and of all that is in it, in ascending order."""
        seen = set()
        waiting = [number]
        while waiting:
            part = waiting.pop()
            if part not in seen:
                seen.add(part)
                waiting.extend(self.part_numbers(part))
        return sorted(seen)

    def value_of(self, number):
        """Return the value with the number."""
        values = {}
        for part in self.numbers_within(number):
            row = self.rows[part]
            if row[0] == "list":
                row = ("list", tuple([values[item] for item in row[1]]))
            elif row[0] == "object":
                row = ("object", tuple([(name, values[inner]) for name, inner in row[1]]))
            values[part] = row
        return values[number]

    def literal_holds(self, literal, number):
        """Return True if a literal holds at the value with the number."""
        word, is_positive, argument, inner = literal
        row = self.rows[number]
        if row[0] != kind_asked(word, argument):
            return not is_positive
        if inner is None:
            return leaf_fits(row, word, argument) == is_positive
        asked = parts_asked(row, word, argument)
        if word == "at" and not asked:
            return not is_positive
        return all([self.holds(inner, part) for part in asked]) == is_positive

    def holds(self, formula, number):
        """Return True if the formula with the one number holds at the value with the other."""
        for part in self.nodes.skeleton(formula):
            if (part, number) not in self.answers:
                row = self.nodes.rows[part]
                if self.nodes.is_joined(part):
                    told = [self.answers[(inner, number)] for inner in row[1]]
                    self.answers[(part, number)] = all(told) if row[0] == "and" else any(told)
                else:
                    self.answers[(part, number)] = self.literal_holds(row, number)
        return self.answers[(formula, number)]
