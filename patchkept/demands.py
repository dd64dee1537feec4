"""What literals ask of the parts of a list or an object."""

from patchkept.nodes import opposite


def reaches(argument, token):
    """Return True if an each_item from this index on, or an each_field besides these names, is about the part."""
    return token >= argument if isinstance(token, int) else token not in argument


class Demands:
    """Literals about values of one kind, list or object, sorted out.

    `parts` has for each token what the part there must be, if there is one, and `required` the tokens that must
    lead to a part. `everywhere` has pairs of an index or names, and what all parts that it reaches must be;
    `somewhere` likewise what at least one of them must be. There are at least `low` and at most `high` items.
    """

    def __init__(self, rows):
        self.parts = {}
        self.required = []
        self.everywhere = []
        self.somewhere = []
        self.low = 0
        self.high = None
        for row in rows:
            self.take_up(row)

    def take_up(self, row):
        """Sort out a literal; there are no two about the part at one token."""
        word, is_positive, argument, inner = row
        if word == "items_from":
            self.bound(argument, is_positive)
        elif word == "at":
            self.parts[argument] = inner if is_positive else opposite(inner)
            if is_positive:
                self.required.append(argument)
        elif is_positive:
            self.everywhere.append((argument, inner))
        else:
            self.somewhere.append((argument, opposite(inner)))

    def bound(self, count, is_least):
        """Take up that there are at least so many items, or fewer."""
        if is_least:
            self.low = max(self.low, count)
        elif self.high is None or count - 1 < self.high:
            self.high = count - 1

    def of_part(self, token):
        """Return the list of the numbers of the formulas that must hold at the part, if there is one."""
        told = [number for argument, number in self.everywhere if reaches(argument, token)]
        if token in self.parts:
            told.append(self.parts[token])
        return told

    def least_items(self):
        """Return the number of items that a list has at least."""
        return max([self.low] + [index + 1 for index in self.required])

    def most_items(self):
        """Return a number of items above which no list needs to go."""
        named = [self.low] + list(self.parts)
        named.extend([pair[0] for pair in self.everywhere + self.somewhere])
        most = max(named) + 1 + len(self.somewhere)
        return most if self.high is None else min(most, self.high)

    def names(self):
        """Return the names of which some field is asked something of its own, in ascending order."""
        named = list(self.parts)
        for names, _ in self.everywhere + self.somewhere:
            named.extend(names)
        return sorted(set(named))
