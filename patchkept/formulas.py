"""Formulas, and whether they hold at a value (point 15)."""

from patchkept.places import lookup

# For each word of a formula that asks others: the answer of one of them that decides, and what the formula
# then answers. If none of them decides, the formula answers the opposite.
DECIDING = {
    "not": (True, False),
    "and": (False, False),
    "or": (True, True),
    "at": (False, False),
    "each_item": (False, False),
    "each_field": (False, False),
    "held": (False, False),
}


def holds_by_itself(formula, value):
    """Return True if a formula that contains no other one holds at the value."""
    word = formula[0]
    if word == "true" or word == "false":
        return word == "true"
    if word == "kind":
        return value[0] == formula[1]
    if word == "int_from":
        return value[0] == "int" and value[1] >= formula[1]
    if word == "bool_is":
        return value == ("bool", formula[1])
    if word == "text_is":
        return value == ("text", formula[1])
    if word == "text_from":
        return value[0] == "text" and len(value[1]) >= formula[1]
    return value[0] == "list" and len(value[1]) >= formula[1]


def places_asked(formula, value, held):
    """Return the list of the values at which a formula asks the one within it, or None if it cannot hold."""
    word = formula[0]
    if word == "held":
        return [held]
    if word == "at":
        place = lookup(value, formula[1])
        return None if place is None else [place]
    if word == "each_item":
        return list(value[1][formula[1]:]) if value[0] == "list" else None
    if word == "each_field":
        if value[0] != "object":
            return None
        return [part for name, part in value[1] if name not in formula[1]]
    return [value]


def questions_of(formula, value, held):
    """Return the list of pairs of a formula and a value that a formula asks, in their order."""
    if formula[0] == "and" or formula[0] == "or":
        return [(part, value) for part in formula[1]]
    places = places_asked(formula, value, held)
    if places is None:
        return [(("false",), value)]
    return [(formula[-1], place) for place in places]


def group_of(formula, value, held):
    """Return the answer that decides a formula, what it then answers, and its questions, the first one last."""
    deciding, decided = DECIDING[formula[0]]
    return (deciding, decided, questions_of(formula, value, held)[::-1])


def holds_with(formula, value, held):
    """Return True if the formula holds at the value, with this held value, otherwise False."""
    # Formulas may be nested deeper than calls may be, so what is still to be asked is kept in a list.
    groups = [(False, False, [(formula, value)])]
    answer = None
    while groups:
        deciding, decided, waiting = groups[-1]
        if answer == deciding:
            answer = decided
            groups.pop()
        elif not waiting:
            answer = not decided
            groups.pop()
        else:
            part, place = waiting.pop()
            if part[0] in DECIDING:
                groups.append(group_of(part, place, held))
                answer = None
            else:
                answer = holds_by_itself(part, place)
    return answer


def holds(formula, value):
    """Return True if the plain formula holds at the value, otherwise False."""
    return holds_with(formula, value, None)
