"""Plain formulas as numbers, so that equal ones are known to be equal and each is looked at once.

A formula is a row: a joined one is `("and", numbers)` or `("or", numbers)`; any other one is a literal,
`(word, is_positive, argument, number)`. The opposite of each formula is the other one of its pair of numbers:
`number ^ 1`. The formulas that a formula is joined of have lower numbers than it has.
"""

NEVER = 0
ALWAYS = 1
OTHER_WORD = {"and": "or", "or": "and"}
KIND_OF_WORD = {
    "bool_is": "bool",
    "int_from": "int",
    "text_is": "text",
    "text_from": "text",
    "items_from": "list",
    "each_item": "list",
    "each_field": "object",
}


def opposite(number):
    """Return the number of the formula that holds exactly where the one with this number does not."""
    return number ^ 1


def neutral(word):
    """Return the number of the formula that changes nothing among those that are joined by the word."""
    return ALWAYS if word == "and" else NEVER


def kind_asked(word, argument):
    """Return the kind of the values at which a formula of the word may hold.

    `argument` is its first part, or for an at the first token of its path.
    """
    if word == "kind":
        return argument
    if word == "at":
        return "object" if isinstance(argument, str) else "list"
    return KIND_OF_WORD[word]


def formulas_within(formula):
    """Return the tuple of the formulas that a formula contains directly, or None if it cannot contain one."""
    word = formula[0]
    if word == "and" or word == "or":
        return formula[1]
    if word == "not" or word == "at" or word == "each_item" or word == "each_field":
        return formula[-1:]
    return None


class Nodes:
    """The formulas that have been given numbers."""

    def __init__(self):
        self.rows = []
        self.numbers = {}
        self.restricted = {}
        self.add_pair(("or", ()), ("and", ()))

    def add_pair(self, row, other):
        """Give numbers to a formula and to its opposite."""
        for part in (row, other):
            self.numbers[part] = len(self.rows)
            self.rows.append(part)

    def is_joined(self, number):
        """Return True for a formula that is joined of others."""
        return len(self.rows[number]) == 2

    def raw_literal(self, word, argument, inner):
        """Return the number of a positive literal."""
        row = (word, True, argument, inner)
        if row not in self.numbers:
            self.add_pair(row, (word, False, argument, inner))
        return self.numbers[row]

    def literal(self, word, argument, inner):
        """Return the number of a positive literal, or of something plainer that says the same."""
        if word == "at" and inner == NEVER:
            return NEVER
        if (word == "items_from" or word == "text_from") and argument == 0:
            return self.raw_literal("kind", KIND_OF_WORD[word], None)
        if (word == "each_item" or word == "each_field") and inner == ALWAYS:
            return self.raw_literal("kind", KIND_OF_WORD[word], None)
        if word == "each_item" and inner == NEVER:
            longer = self.raw_literal("items_from", argument + 1, None)
            return self.joined("and", [self.raw_literal("kind", "list", None), opposite(longer)])
        if word == "each_field":
            return self.raw_literal(word, tuple(sorted(set(argument))), inner)
        return self.raw_literal(word, argument, inner)

    def parts_of(self, word, number):
        """Return the numbers that are joined by the word to a formula; a formula of another word is its only part."""
        row = self.rows[number]
        return row[1] if row[0] == word else (number,)

    def flattened(self, word, numbers):
        """Return the parts of the formulas in ascending order, or None if they decide what is joined of them."""
        parts = sorted(set([part for number in numbers for part in self.parts_of(word, number)]))
        # The two numbers of a pair stand side by side.
        for at, part in enumerate(parts):
            if part == opposite(neutral(word)) or (at > 0 and parts[at - 1] == opposite(part)):
                return None
        return parts

    def place_merged(self, word, numbers):
        """Return the one literal for several that are about the part at the same token."""
        may_lack = []
        inner = []
        for number in numbers:
            _, is_positive, token, part = self.rows[number]
            may_lack.append(not is_positive)
            inner.append(part if is_positive else opposite(part))
        fitting = self.joined(word, inner)
        lacking_fits = all(may_lack) if word == "and" else any(may_lack)
        if lacking_fits:
            return opposite(self.literal("at", token, opposite(fitting)))
        return self.literal("at", token, fitting)

    def with_places_merged(self, word, parts):
        """Return the parts with one literal for each token, instead of several."""
        groups = {}
        others = []
        for part in parts:
            row = self.rows[part]
            if row[0] == "at":
                groups.setdefault(row[2], []).append(part)
            else:
                others.append(part)
        if len(groups) + len(others) == len(parts):
            return parts
        merged = [self.place_merged(word, group) if len(group) > 1 else group[0] for group in groups.values()]
        return others + merged

    def shortened(self, word, part, beside):
        """Return a part without what the parts beside it, a dict, already say about it."""
        if self.rows[part][0] != OTHER_WORD[word]:
            return part
        inner = self.rows[part][1]
        if any([number in beside for number in inner]):
            return neutral(word)
        left = [number for number in inner if opposite(number) not in beside]
        return part if len(left) == len(inner) else self.joined(OTHER_WORD[word], left)

    def joined(self, word, numbers):
        """Return the number of the formula that is joined by the word of the formulas with these numbers."""
        parts = []
        changed = numbers
        while parts != changed:
            parts = self.flattened(word, changed)
            if parts is None:
                return opposite(neutral(word))
            merged = self.with_places_merged(word, parts)
            beside = {part: True for part in merged}
            changed = [self.shortened(word, part, beside) for part in merged]
        if len(parts) == 1:
            return parts[0]
        row = (word, tuple(parts))
        if row not in self.numbers:
            self.add_pair(row, (OTHER_WORD[word], tuple(sorted([opposite(part) for part in parts]))))
        return self.numbers[row]

    def number_of_leaf(self, formula):
        """Return the number of a formula that contains no other one."""
        word = formula[0]
        if word == "true" or word == "false":
            return ALWAYS if word == "true" else NEVER
        return self.literal(word, formula[1], None)

    def number_around(self, formula, inner):
        """Return the number of a formula that contains the formulas with these numbers."""
        word = formula[0]
        if word == "not":
            return opposite(inner[0])
        if word == "and" or word == "or":
            return self.joined(word, inner)
        if word != "at":
            return self.literal(word, formula[1], inner[0])
        number = inner[0]
        for token in reversed(formula[1]):
            number = self.literal("at", token, number)
        return number

    def number_of(self, formula):
        """Return the number of a plain formula."""
        # Formulas may be nested deeper than calls may be, so what is still to be made is kept in a list.
        waiting = [(formula, False)]
        made = []
        while waiting:
            part, are_made = waiting.pop()
            within = formulas_within(part)
            if within is None:
                made.append(self.number_of_leaf(part))
            elif are_made:
                start = len(made) - len(within)
                made[start:] = [self.number_around(part, made[start:])]
            else:
                waiting.append((part, True))
                waiting.extend([(inner, False) for inner in within[::-1]])
        return made[0]

    def skeleton(self, number):
        """Return the numbers of the formulas that a formula is joined of, and its own, in ascending order."""
        seen = set()
        waiting = [number]
        while waiting:
            part = waiting.pop()
            if part not in seen:
                seen.add(part)
                if self.is_joined(part):
                    waiting.extend(self.rows[part][1])
        return sorted(seen)

    def literal_for_kind(self, number, kind):
        """Return the number of what a literal says about values of the kind."""
        row = self.rows[number]
        fits = kind_asked(row[0], row[2]) == kind
        if fits and row[0] != "kind":
            return number
        return ALWAYS if fits == row[1] else NEVER

    def for_kind(self, number, kind):
        """Return the number of what a formula says about values of the kind."""
        for part in self.skeleton(number):
            if (part, kind) in self.restricted:
                continue
            if self.is_joined(part):
                word, inner = self.rows[part]
                told = self.joined(word, [self.restricted[(other, kind)] for other in inner])
            else:
                told = self.literal_for_kind(part, kind)
            self.restricted[(part, kind)] = told
        return self.restricted[(number, kind)]
