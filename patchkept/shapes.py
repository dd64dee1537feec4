"""Making formulas of formulas, without the parts that say nothing."""

TRUE = ("true",)
FALSE = ("false",)


def negation(formula):
    """Return a formula that holds exactly where the formula does not."""
    if formula == TRUE:
        return FALSE
    if formula == FALSE:
        return TRUE
    return formula[1] if formula[0] == "not" else ("not", formula)


def joined(word, formulas, neutral, deciding):
    """Return the formula of this word over the formulas, without the neutral ones; a deciding one stands alone."""
    parts = []
    for formula in formulas:
        if formula == deciding:
            return deciding
        if formula[0] == word:
            parts.extend(formula[1])
        elif formula != neutral:
            parts.append(formula)
    if not parts:
        return neutral
    return parts[0] if len(parts) == 1 else (word, tuple(parts))


def conjunction(formulas):
    """Return a formula that holds where all formulas of the list hold."""
    return joined("and", formulas, TRUE, FALSE)


def disjunction(formulas):
    """Return a formula that holds where at least one formula of the list holds."""
    return joined("or", formulas, FALSE, TRUE)


def leading(path, formula):
    """Return the formula that holds if there is a place at the path and the formula holds there."""
    if not path or formula == FALSE:
        return formula
    if formula[0] == "at":
        return ("at", path + formula[1], formula[2])
    return ("at", path, formula)


def of_held(formula):
    """Return the formula that holds if the plain formula holds at the held value."""
    return formula if formula == TRUE or formula == FALSE else ("held", formula)


def parts_within(formula):
    """Return the formulas about the same place that a formula is made of, or None if it is not made of such."""
    word = formula[0]
    if word == "and" or word == "or":
        return formula[1]
    if word == "not":
        return formula[1:]
    if word == "at" and not formula[1]:
        return formula[2:]
    return None


def made_again(word, parts):
    """Return the formula of a word over the parts that `parts_within` gives for it."""
    if word == "and":
        return conjunction(parts)
    if word == "or":
        return disjunction(parts)
    return negation(parts[0]) if word == "not" else parts[0]


def rebuilt(formula, change):
    """Return the formula with `change(part)` for each part that is no constant and not made of such parts.

    The changed part has to say the same about the whole as the part says about its place.
    """
    # Formulas may be nested deeper than calls may be, so what is still to be made is kept in a list.
    waiting = [(formula, False)]
    made = []
    while waiting:
        part, are_made = waiting.pop()
        within = parts_within(part)
        if within is None:
            made.append(part if part == TRUE or part == FALSE else change(part))
        elif are_made:
            start = len(made) - len(within)
            made[start:] = [made_again(part[0], made[start:])]
        else:
            waiting.append((part, True))
            waiting.extend([(inner, False) for inner in within[::-1]])
    return made[0]
