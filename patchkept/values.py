"""JSON documents as nested tuples, and their measures (points 4 and 5)."""


def make_object(pairs):
    """Return the object with these fields; `pairs` is a list of pairs in any order."""
    return ("object", tuple(sorted(pairs, key=lambda pair: pair[0])))


def parts_of(value):
    """Return the list of the items, or of the values of the fields, of a value."""
    if value[0] == "list":
        return list(value[1])
    if value[0] == "object":
        return [field[1] for field in value[1]]
    return []


def size_of(value):
    """Return one for the value itself, and one for each value within it."""
    size = 0
    waiting = [value]
    while waiting:
        part = waiting.pop()
        size += 1
        waiting.extend(parts_of(part))
    return size


def depth_of(value):
    """Return the number of levels of a value; a value without parts has one."""
    depth = 0
    level = [value]
    while level:
        depth += 1
        level = [inner for part in level for inner in parts_of(part)]
    return depth
