"""Finding and changing places in a value (points 6 to 10)."""

from patchkept.values import make_object


def field_value(fields, name):
    """Return the value of the field of this name, or None if there is none."""
    for field in fields:
        if field[0] == name:
            return field[1]
    return None


def part_at(value, token):
    """Return the value that the token leads to, or None if it leads nowhere."""
    if value[0] == "object" and isinstance(token, str):
        return field_value(value[1], token)
    if value[0] == "list" and isinstance(token, int) and 0 <= token < len(value[1]):
        return value[1][token]
    return None


def lookup(value, path):
    """Return the value at the path, or None if there is no such place."""
    place = value
    for token in path:
        place = part_at(place, token)
        if place is None:
            return None
    return place


def with_field(parent, name, new):
    """Return the object with `new` in its field of this name, whether or not it had one."""
    others = [field for field in parent[1] if field[0] != name]
    return make_object(others + [(name, new)])


def with_part(parent, token, new):
    """Return the parent with `new` for the part that the token leads to."""
    if parent[0] == "object":
        return with_field(parent, token, new)
    parts = parent[1]
    return ("list", parts[:token] + (new,) + parts[token + 1:])


def without_part(parent, token):
    """Return the parent without the part that the token leads to."""
    parts = parent[1]
    if parent[0] == "object":
        return ("object", tuple([field for field in parts if field[0] != token]))
    return ("list", parts[:token] + parts[token + 1:])


def put_part(parent, token, new):
    """Return the parent after `new` has been put at the token, or None if that is not possible."""
    if isinstance(token, str):
        return with_field(parent, token, new) if parent[0] == "object" else None
    if parent[0] != "list":
        return None
    parts = parent[1]
    index = len(parts) if token == -1 else token
    if index > len(parts):
        return None
    return ("list", parts[:index] + (new,) + parts[index:])


def replace_at(value, path, new):
    """Return the value with `new` for what is at the path, or None if there is no such place."""
    parents = []
    place = value
    for token in path:
        parents.append((place, token))
        place = part_at(place, token)
        if place is None:
            return None
    changed = new
    for parent, token in reversed(parents):
        changed = with_part(parent, token, changed)
    return changed


def put_at(value, path, new):
    """Return the value after `new` has been put at the path, or None if that is not possible."""
    if not path:
        return new
    parent = lookup(value, path[:-1])
    if parent is None:
        return None
    changed = put_part(parent, path[-1], new)
    if changed is None:
        return None
    return replace_at(value, path[:-1], changed)


def take_at(value, path):
    """Return the value after the place has been taken away, or None if that is not possible."""
    if not path or lookup(value, path) is None:
        return None
    parent = lookup(value, path[:-1])
    return replace_at(value, path[:-1], without_part(parent, path[-1]))
