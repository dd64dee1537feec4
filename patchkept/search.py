"""Examples for formulas (point 18)."""

from patchkept.finder import Finder
from patchkept.nodes import kind_asked
from patchkept.shapes import FALSE, TRUE, conjunction, leading, negation, rebuilt


def leaf_for_kind(kind, leaf):
    """Return what a formula that is not made of others says about values of the kind: a demand, or a constant."""
    word = leaf[0]
    argument = leaf[1][0] if word == "at" else leaf[1]
    if kind_asked(word, argument) != kind:
        return FALSE
    if word == "kind":
        return TRUE
    if word == "at":
        return ("at", leaf[1][:1], leading(leaf[1][1:], leaf[2]))
    return leaf


def told_of_kind(kind, formula):
    """Return what a formula says about values of the kind, made of demands."""
    return rebuilt(formula, lambda leaf: leaf_for_kind(kind, leaf))


def demands_against(demand):
    """Return the list of the demands of which one is met where a demand, which is no not, is not met."""
    if demand[0] != "at":
        return [negation(demand)]
    _, path, formula = demand
    token = path[0]
    is_there = ("at", path, TRUE) if isinstance(token, str) else ("items_from", token + 1)
    if formula == TRUE:
        return [negation(is_there)]
    return [negation(is_there), ("at", path, negation(formula))]


def ways_of(formula, expected):
    """Return the ways in which what is told of a kind holds, or does not hold.

    A way is a pair: a list of formulas with whether they are to hold, and a list of demands.
    """
    word = formula[0]
    if word == "not":
        return [([(formula[1], not expected)], [])]
    if word == "and" or word == "or":
        questions = [(part, expected) for part in formula[1]]
        return [(questions, [])] if (word == "and") == expected else [([question], []) for question in questions]
    if formula == TRUE or formula == FALSE:
        return [([], [])] if (formula == TRUE) == expected else []
    return [([], [demand]) for demand in ([formula] if expected else demands_against(formula))]


def alternatives(kind, formulas):
    """Return a list of lists of demands; the formulas hold at a value of the kind where those of some list do."""
    found = []
    waiting = [([(told_of_kind(kind, formula), True) for formula in formulas], [])]
    while waiting:
        questions, demands = waiting.pop()
        if not questions:
            found.append(demands)
            continue
        formula, expected = questions[0]
        for more, demanded in ways_of(formula, expected)[::-1]:
            if not any([negation(demand) in demands for demand in demanded]):
                new = [demand for demand in demanded if demand not in demands]
                waiting.append((more + questions[1:], demands + new))
    return found


def build(kind, demands):
    """Return a value of the kind at which all demands of the list hold, or None if there is none."""
    finder = Finder()
    number = finder.nodes.number_of(("and", tuple(demands)))
    found = finder.example_of_kind(kind, number)
    return None if found is None else finder.models.value_of(found)


def example_of(formula):
    """Return a value at which the plain formula holds, or None if there is none."""
    finder = Finder()
    found = finder.example(finder.nodes.number_of(formula))
    return None if found is None else finder.models.value_of(found)
