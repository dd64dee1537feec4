"""The conditions of primitives and patches before formulas (points 16 and 17)."""

from patchkept.formulas import holds
from patchkept.meanings import equal_formula, schema_formula
from patchkept.patches import primitives_of
from patchkept.shapes import FALSE, TRUE, conjunction, disjunction, leading, negation, of_held, rebuilt
from patchkept.shifts import is_shift, item_after_shift, leaf_after_shift


def success_of_put(path):
    """Return the formula of the values in which something can be put at the path."""
    if not path:
        return TRUE
    parent, last = path[:-1], path[-1]
    if isinstance(last, str):
        return leading(parent, ("kind", "object"))
    return leading(parent, ("kind", "list") if last == -1 else ("items_from", last))


def success_of_each(patch):
    """Return the formula of the lists and objects for whose parts the patch does not fail."""
    success = before(patch, TRUE)
    return disjunction([("each_item", 0, success), ("each_field", (), success)])


def success_of(primitive):
    """Return a plain formula that holds at exactly the values for which the primitive does not fail."""
    word = primitive[0]
    if word == "load":
        return TRUE
    if word == "when":
        return before_primitive(primitive, TRUE)
    path = primitive[1]
    if word == "put":
        return success_of_put(path)
    if word == "take" and not path:
        return FALSE
    if word == "check":
        return leading(path, equal_formula(primitive[2]))
    if word == "increase":
        return leading(path, ("kind", "int"))
    if word == "each":
        return leading(path, success_of_each(primitive[2]))
    return leading(path, TRUE)


def by_case(primitive, formula, other_formula):
    """Return the formula that is the one or the other, as a when chooses between its patches."""
    if formula == other_formula:
        return formula
    chosen = leading(primitive[1], schema_formula(primitive[2]))
    return disjunction([conjunction([chosen, formula]), conjunction([negation(chosen), other_formula])])


# The functions from here to `given` take it that the primitive, or the patch, does not fail. They return what a
# formula about the value afterwards says about the value before and the held value.

def field_leaf(primitive, path, leaf):
    """Return what an each_field says at a place on the way to the target."""
    target = primitive[1]
    _, names, formula = leaf
    name = target[len(path)]
    if name in names:
        return leading(path, leaf)
    rest = leading(path, ("each_field", names + (name,), formula))
    if primitive[0] == "take" and len(path) == len(target) - 1:
        return rest
    return conjunction([rest, given_at(primitive, path + (name,), formula)])


def item_leaf(primitive, path, leaf):
    """Return what an each_item says at a place on the way to the target, if no item is put in or taken there."""
    _, start, formula = leaf
    index = primitive[1][len(path)]
    if index < start:
        return leading(path, leaf)
    parts = [leading(path + (other,), formula) for other in range(start, index)]
    parts.append(given_at(primitive, path + (index,), formula))
    parts.append(leading(path, ("each_item", index + 1, formula)))
    return conjunction(parts)


def leaf_above(primitive, path, leaf):
    """Return what a formula that is not made of others says at a place on the way to the target."""
    word = leaf[0]
    if word == "at":
        return given_at(primitive, path + leaf[1], leaf[2])
    # What the next token leads into is an object or a list, because the primitive does not fail.
    if isinstance(primitive[1][len(path)], str):
        if word == "each_field":
            return field_leaf(primitive, path, leaf)
        return TRUE if leaf == ("kind", "object") else FALSE
    if word == "each_item" or word == "items_from":
        if is_shift(primitive) and len(path) == len(primitive[1]) - 1:
            return leaf_after_shift(primitive, leaf)
        return item_leaf(primitive, path, leaf) if word == "each_item" else leading(path, leaf)
    return TRUE if leaf == ("kind", "list") else FALSE


def leaf_after_each(primitive, leaf):
    """Return what a formula that is not made of others says at the target of an each."""
    _, target, patch = primitive
    word = leaf[0]
    if word == "at":
        return leading(target + leaf[1][:1], given(patch, leading(leaf[1][1:], leaf[2])))
    if word == "each_item" or word == "each_field":
        return leading(target, (word, leaf[1], given(patch, leaf[2])))
    return leading(target, leaf)


def leaf_after_increase(primitive, leaf):
    """Return what a formula that is not made of others says at the target of an increase."""
    _, target, amount = primitive
    if leaf[0] == "int_from":
        return leading(target, ("int_from", leaf[1] - amount))
    return TRUE if leaf == ("kind", "int") else FALSE


def given_within(primitive, rest, formula):
    """Return what the formula says at the place to which `rest` leads from the target."""
    word = primitive[0]
    if word == "put" or word == "swap":
        return of_held(leading(rest, formula))
    if word == "each":
        if rest:
            return leaf_after_each(primitive, ("at", rest, formula))
        return rebuilt(formula, lambda leaf: leaf_after_each(primitive, leaf))
    if word == "increase" and not rest:
        return rebuilt(formula, lambda leaf: leaf_after_increase(primitive, leaf))
    return FALSE


def given_at(primitive, path, formula):
    """Return what the formula says at the path; without a place there it does not hold."""
    target = primitive[1]
    if len(path) < len(target) and target[:len(path)] == path:
        return rebuilt(formula, lambda leaf: leaf_above(primitive, path, leaf))
    if is_shift(primitive) and path[:len(target) - 1] == target[:-1]:
        return item_after_shift(primitive, path, formula)
    if path[:len(target)] == target:
        return given_within(primitive, path[len(target):], formula)
    return leading(path, formula)


def given_leaf(primitive, leaf):
    """Return what a formula that is not made of others says, if it is about the value or the held value."""
    word = primitive[0]
    if leaf[0] != "held":
        return leaf if word == "load" or word == "look" else given_at(primitive, (), leaf)
    if word == "load":
        return TRUE if holds(leaf[1], primitive[1]) else FALSE
    return leading(primitive[1], leaf[1]) if word == "look" or word == "take" else leaf


def given_primitive(primitive, formula):
    """Return what the formula says, given that the primitive does not fail."""
    word = primitive[0]
    if word == "check":
        return formula
    if word == "when":
        return by_case(primitive, given(primitive[3], formula), given(primitive[4], formula))
    return rebuilt(formula, lambda leaf: given_leaf(primitive, leaf))


def given(patch, formula):
    """Return what the plain formula says, given that the patch does not fail."""
    told = formula
    for step in reversed(patch):
        for primitive in reversed(primitives_of(step)):
            told = given_primitive(primitive, told)
    return told


def before_primitive(primitive, formula):
    """Return the condition of the primitive before the formula."""
    if primitive[0] == "when":
        return by_case(primitive, before(primitive[3], formula), before(primitive[4], formula))
    return conjunction([success_of(primitive), given_primitive(primitive, formula)])


def before(patch, formula):
    """Return the condition of the patch before the plain formula."""
    condition = formula
    for step in reversed(patch):
        for primitive in reversed(primitives_of(step)):
            condition = before_primitive(primitive, condition)
    return condition
