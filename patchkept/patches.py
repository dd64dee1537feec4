"""Patches, their steps, and the primitives of the steps (points 12 to 14)."""

from patchkept.places import lookup, put_at, replace_at, take_at
from patchkept.schemas import is_valid
from patchkept.values import parts_of


def primitives_of(step):
    """Return the tuple of the primitives of a step."""
    word = step[0]
    if word == "test":
        return (("check", step[1], step[2]),)
    if word == "add":
        return (("load", step[2]), ("put", step[1]))
    if word == "remove":
        return (("take", step[1]),)
    if word == "replace":
        return (("load", step[2]), ("swap", step[1]))
    if word == "move":
        return (("take", step[1]), ("put", step[2]))
    if word == "copy":
        return (("look", step[1]), ("put", step[2]))
    return (step,)


def pair_with_held(primitive, value):
    """Return the pair that a load, a look or a take leaves, or None if it fails."""
    word, argument = primitive
    if word == "load":
        return (value, argument)
    found = lookup(value, argument)
    left = value if word == "look" else take_at(value, argument)
    if found is None or left is None:
        return None
    return (left, found)


def checked(primitive, value):
    """Return the value as it is if the check finds its value at its path, otherwise None."""
    _, path, expected = primitive
    return value if lookup(value, path) == expected else None


def increased(primitive, value):
    """Return the value after an increase, or None if it fails."""
    _, path, amount = primitive
    place = lookup(value, path)
    if place is None or place[0] != "int":
        return None
    return replace_at(value, path, ("int", place[1] + amount))


def apply_to_parts(patch, place):
    """Return the list or object with the patch applied to each of its parts, or None if that is not possible."""
    if place[0] != "list" and place[0] != "object":
        return None
    results = []
    for part in parts_of(place):
        result = apply(patch, part)
        if result is None:
            return None
        results.append(result)
    if place[0] == "list":
        return ("list", tuple(results))
    names = [field[0] for field in place[1]]
    return ("object", tuple(zip(names, results)))


def changed_in_each(primitive, value):
    """Return the value after an each, or None if it fails."""
    _, path, patch = primitive
    place = lookup(value, path)
    if place is None:
        return None
    changed = apply_to_parts(patch, place)
    if changed is None:
        return None
    return replace_at(value, path, changed)


def changed_by_case(primitive, value):
    """Return the value after a when, or None if it fails."""
    _, path, schema, patch, other = primitive
    place = lookup(value, path)
    # The chosen patch gets the value as a whole; the place only decides which patch that is.
    if place is not None and is_valid(schema, place):
        return apply(patch, value)
    return apply(other, value)


ACTIONS = {
    "check": checked,
    "increase": increased,
    "each": changed_in_each,
    "when": changed_by_case,
}


def value_after(primitive, value, held):
    """Return the value that a primitive leaves which keeps the held value, or None if it fails."""
    word = primitive[0]
    if word == "put":
        return put_at(value, primitive[1], held)
    if word == "swap":
        return replace_at(value, primitive[1], held)
    action = ACTIONS[word]
    return action(primitive, value)


def run_primitive(primitive, value, held):
    """Return the pair of a value and a held value that the primitive leaves, or None if it fails."""
    if primitive[0] in ("load", "look", "take"):
        return pair_with_held(primitive, value)
    changed = value_after(primitive, value, held)
    if changed is None:
        return None
    return (changed, held)


def apply_step(step, value):
    """Return the value that the step leaves, or None if it fails."""
    pair = (value, None)
    for primitive in primitives_of(step):
        pair = run_primitive(primitive, pair[0], pair[1])
        if pair is None:
            return None
    return pair[0]


def apply(patch, value):
    """Return the result of the patch, or None if it fails."""
    result = value
    for step in patch:
        result = apply_step(step, result)
        if result is None:
            return None
    return result
