"""What formulas say before an item is put into a list or taken out of it, so that others move (point 17).

The functions take it that the primitive does not fail. It has a target with an index, or -1, as its last token.
"""

from patchkept.shapes import FALSE, conjunction, disjunction, leading, negation, of_held


def is_shift(primitive):
    """Return True for a primitive that puts an item into a list, or takes one out of it."""
    word, target = primitive[:2]
    return (word == "put" or word == "take") and bool(target) and isinstance(target[-1], int)


def all_after_put(parent, index, leaf):
    """Return what an each_item says at the list in which something is put at the index."""
    _, start, formula = leaf
    if index == -1:
        is_beyond = negation(leading(parent, ("items_from", start))) if start else FALSE
        return conjunction([leading(parent, leaf), disjunction([is_beyond, of_held(formula)])])
    if index < start:
        return leading(parent, ("each_item", start - 1, formula))
    return conjunction([leading(parent, leaf), of_held(formula)])


def all_after_take(parent, index, leaf):
    """Return what an each_item says at the list out of which the item at the index is taken."""
    _, start, formula = leaf
    if index < start:
        return leading(parent, ("each_item", start + 1, formula))
    parts = [leading(parent + (other,), formula) for other in range(start, index)]
    parts.append(leading(parent, ("each_item", index + 1, formula)))
    return conjunction(parts)


def leaf_after_shift(primitive, leaf):
    """Return what an each_item or an items_from says at the list."""
    parent, index = primitive[1][:-1], primitive[1][-1]
    is_put = primitive[0] == "put"
    if leaf[0] == "items_from":
        count = max(leaf[1] - 1, 0) if is_put else leaf[1] + 1
        return leading(parent, ("items_from", count))
    return all_after_put(parent, index, leaf) if is_put else all_after_take(parent, index, leaf)


def part_after_append(parent, rest, formula):
    """Return what the formula says at the path `parent + rest`, if something is put behind the last item."""
    index = rest[0]
    is_new = conjunction([("items_from", index), negation(("items_from", index + 1))])
    new_part = conjunction([leading(parent, is_new), of_held(leading(rest[1:], formula))])
    return disjunction([leading(parent + rest, formula), new_part])


def item_after_shift(primitive, path, formula):
    """Return what the formula says at a path that leads on from the list; without a place there it does not hold."""
    parent, index = primitive[1][:-1], primitive[1][-1]
    rest = path[len(parent):]
    other = rest[0]
    if isinstance(other, str):
        return FALSE
    is_put = primitive[0] == "put"
    if is_put and index == -1:
        return part_after_append(parent, rest, formula)
    if is_put and other == index:
        return of_held(leading(rest[1:], formula))
    if other < index:
        return leading(path, formula)
    moved = other - 1 if is_put else other + 1
    return leading(parent + (moved,) + rest[1:], formula)
