"""The search for a value at which a formula holds (point 18)."""

from patchkept.claims import own_tokens
from patchkept.demands import Demands, reaches
from patchkept.leaves import fresh_name, pick_int, pick_text
from patchkept.models import Models
from patchkept.nodes import NEVER, Nodes

KINDS = ("null", "bool", "int", "text", "list", "object")


def ranges_between(bounds):
    """Return the list of the pairs of the least and the greatest number between these bounds; None is no bound."""
    starts = [None] + bounds
    ends = [bound - 1 for bound in bounds] + [None]
    return list(zip(starts, ends))


def int_leaves(bounds):
    """Return one int for each range in which all ints are on the same sides of the bounds."""
    picked = [pick_int(low, high) for low, high in ranges_between(sorted(set(bounds)))]
    return [("int", number) for number in picked]


def text_leaves(strings, bounds):
    """Return the texts with these strings, and another one for each range of lengths, if there is another one."""
    starts = sorted(set([0] + bounds))
    picked = [pick_text(low, high, strings) for low, high in ranges_between(starts)[1:]]
    return [("text", string) for string in strings + picked if string is not None]


class Finder:
    """A search, which remembers what it found for formulas and for parts of them."""

    def __init__(self):
        self.nodes = Nodes()
        self.models = Models(self.nodes)
        self.examples = {}
        self.built = {}

    def example(self, number):
        """Return the number of a value at which the formula with the number holds, or None if there is none."""
        if number not in self.examples:
            found = None
            for kind in KINDS:
                if found is None:
                    found = self.example_of_kind(kind, number)
            self.examples[number] = found
        return self.examples[number]

    def example_of_kind(self, kind, number):
        """Return the number of a value of the kind at which the formula holds, or None if there is none."""
        told = self.nodes.for_kind(number, kind)
        if told == NEVER:
            return None
        if kind == "list" or kind == "object":
            return self.example_with_parts(kind, told)
        for leaf in self.leaves(kind, told):
            model = self.models.number_of(leaf)
            if self.models.holds(told, model):
                return model
        return None

    def leaves(self, kind, number):
        """Return values of the kind, such that the formula holds at one of them if it holds at any of the kind."""
        if kind == "null":
            return [("null",)]
        if kind == "bool":
            return [("bool", False), ("bool", True)]
        rows = [self.nodes.rows[part] for part in self.nodes.skeleton(number) if not self.nodes.is_joined(part)]
        if kind == "int":
            return int_leaves([row[2] for row in rows])
        strings = [row[2] for row in rows if row[0] == "text_is"]
        return text_leaves(strings, [row[2] for row in rows if row[0] == "text_from"])

    def example_with_parts(self, kind, start):
        """Return the number of a list or object at which the formula holds, or None if there is none.

        A value is built for what surely must hold. Where a choice between formulas then does not hold, each of
        the chosen ones is added to what must hold.
        """
        seen = set()
        waiting = [start]
        while waiting:
            state = waiting.pop()
            model = self.model_for(kind, state)
            if model is None or state in seen:
                continue
            seen.add(state)
            parts = self.nodes.parts_of("and", state)
            failing = [part for part in parts if not self.models.holds(part, model)]
            if not failing:
                return model
            waiting.extend(self.fewest_states(kind, parts, failing)[::-1])
        return None

    def fewest_states(self, kind, parts, failing):
        """Return what can come of the choice among the failing ones that leaves the fewest possibilities."""
        fewest = None
        for choice in failing:
            others = [part for part in parts if part != choice]
            states = []
            for chosen in self.nodes.rows[choice][1]:
                state = self.nodes.joined("and", others + [chosen])
                if state != NEVER and self.model_for(kind, state) is not None:
                    states.append(state)
            if fewest is None or len(states) < len(fewest):
                fewest = states
            if len(fewest) < 2:
                break
        return fewest

    def model_for(self, kind, state):
        """Return the number of a value of the kind at which the literals among the parts of a formula hold, or None."""
        if (kind, state) not in self.built:
            parts = self.nodes.parts_of("and", state)
            demands = Demands([self.nodes.rows[part] for part in parts if not self.nodes.is_joined(part)])
            if kind == "list":
                self.built[(kind, state)] = self.list_for(demands)
            else:
                self.built[(kind, state)] = self.object_for(demands)
        return self.built[(kind, state)]

    def list_for(self, demands):
        """Return the number of a list that meets the demands, or None if there is none."""
        # More items make more room, so only what no item can be, at some index, bounds them.
        bases = {}
        for index in range(demands.most_items()):
            base = self.nodes.joined("and", demands.of_part(index))
            if self.example(base) is None:
                break
            bases[index] = base
        least = demands.least_items()
        placed = self.placed_parts(demands.somewhere, bases) if len(bases) >= least else None
        if placed is None:
            return None
        count = max([least] + [index + 1 for index in placed])
        items = [self.example(placed.get(index, bases[index])) for index in range(count)]
        return self.models.number_of(("list", tuple(items)))

    def object_for(self, demands):
        """Return the number of an object that meets the demands, or None if there is none."""
        names = demands.names()
        for _ in demands.somewhere:
            names.append(fresh_name(names))
        bases = {}
        for name in names:
            base = self.nodes.joined("and", demands.of_part(name))
            if self.example(base) is not None:
                bases[name] = base
        if not all([name in bases for name in demands.required]):
            return None
        placed = self.placed_parts(demands.somewhere, bases)
        if placed is None:
            return None
        present = sorted(set(demands.required + list(placed)))
        fields = [(name, self.example(placed.get(name, bases[name]))) for name in present]
        return self.models.number_of(("object", tuple(fields)))

    def placed_parts(self, wishes, bases):
        """Return for tokens what the part there must be, so that each wish for some part comes true, or None.

        `bases` has for each token that can lead to a part what that part must be anyway.
        """
        alike = self.tokens_alike(wishes, bases)
        placed = {}
        tight = []
        for argument, number in wishes:
            token = self.token_among(alike, number, placed)
            if token is None:
                tight.append((argument, number))
            else:
                placed[token] = self.nodes.joined("and", [bases[token], number])
        plan = self.plan_for(tight, bases, placed)
        if plan is None:
            return None
        # The planned ones come first: what the others take is then no hindrance to them.
        others = [wish for wish in tight if wish not in plan]
        waiting = [(list(plan) + others, placed)]
        while waiting:
            left, placed = waiting.pop()
            if not left:
                return placed
            ways = self.ways_to_place(left, bases, placed, plan)
            waiting.extend([(left[1:], way) for way in ways[::-1]])
        return None

    def plan_for(self, wishes, bases, placed):
        """Return tokens for wishes of which no two can come true at one token, or None if that is not possible.

        Without them it would take all ways of placing some to see that there are too few tokens for all.
        """
        options = {}
        for wish in wishes:
            tokens = self.tokens_for(wish, bases, placed)
            if not tokens:
                return None
            joint = [self.nodes.joined("and", [wish[1], other[1]]) for other in options]
            if all([self.example(number) is None for number in joint]):
                options[wish] = tokens
        return own_tokens(options)

    def tokens_for(self, wish, bases, placed):
        """Return the list of the tokens at which the wish can come true."""
        argument, number = wish
        tokens = []
        for token, base in bases.items():
            told = self.nodes.joined("and", [placed.get(token, base), number])
            if reaches(argument, token) and self.example(told) is not None:
                tokens.append(token)
        return tokens

    def tokens_alike(self, wishes, bases):
        """Return lists of tokens that are alike for every wish, and enough for all of them, by what is there anyway.

        A wish that comes true at one of them takes nothing away from the others.
        """
        alike = {}
        for token, base in bases.items():
            if all([reaches(argument, token) for argument, _ in wishes]):
                alike.setdefault(base, []).append(token)
        return {base: tokens for base, tokens in alike.items() if len(tokens) >= len(wishes)}

    def token_among(self, alike, number, placed):
        """Return a free token of those that are alike at which a wish for the formula comes true, or None."""
        for base, tokens in alike.items():
            if self.example(self.nodes.joined("and", [base, number])) is not None:
                free = [token for token in tokens if token not in placed]
                return free[0]
        return None

    def ways_to_place(self, wishes, bases, placed, plan):
        """Return the list of what `placed` can become by the first of the wishes; tokens that are alike count once."""
        argument, number = wishes[0]
        planned = [plan[wishes[0]]] if wishes[0] in plan else []
        seen = set()
        ways = []
        for token in planned + list(bases):
            now = placed.get(token, bases[token])
            key = (now, tuple([reaches(wish[0], token) for wish in wishes]))
            if not reaches(argument, token) or key in seen:
                continue
            seen.add(key)
            told = self.nodes.joined("and", [now, number])
            if self.example(told) is not None:
                ways.append({**placed, token: told})
        return ways
