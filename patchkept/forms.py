"""Schemas and patches as values, and back (points 23 and 24)."""

from patchkept.errors import InvalidForm
from patchkept.extents import patch_within_bounds, schemas_within_bounds
from patchkept.strings import is_plain_string

MOST_CHARACTERS = 30
MOST_TOKENS = 6
GREATEST_INDEX = 9

# For each word: what its parts are.
SCHEMA_PARTS = {
    "any": (),
    "never": (),
    "null": (),
    "bool": (),
    "int": ("bound", "bound"),
    "text": ("count", "limit"),
    "const": ("value",),
    "list": ("schema", "count", "limit"),
    "tuple": ("schemas",),
    "object": ("rows", "schema"),
    "either": ("schemas",),
    "all": ("schemas",),
    "not": ("schema",),
}
STEP_PARTS = {
    "test": ("path", "value"),
    "add": ("target", "value"),
    "remove": ("path",),
    "replace": ("path", "value"),
    "move": ("path", "target"),
    "copy": ("path", "target"),
    "increase": ("path", "number"),
    "each": ("path", "patch"),
    "when": ("path", "schema", "patch", "patch"),
}


def check(is_right):
    """Raise InvalidForm if something is not right."""
    if not is_right:
        raise InvalidForm("not the form of a schema or a patch within the bounds")


def same(part):
    """Return a value as it is."""
    return part


def bound_to_value(bound):
    """Return the int of a bound, or null if it is None."""
    return ("null",) if bound is None else ("int", bound)


def path_to_value(path):
    """Return the list of the texts and ints of a path."""
    return ("list", tuple([("text" if isinstance(token, str) else "int", token) for token in path]))


def schemas_to_value(schemas):
    """Return the list of the values of schemas."""
    return ("list", tuple([schema_to_value(schema) for schema in schemas]))


def rows_to_value(rows):
    """Return the list of lists for the fields of an object schema."""
    lists = [(("text", name), schema_to_value(schema), ("bool", required)) for name, schema, required in rows]
    return ("list", tuple([("list", parts) for parts in lists]))


def form_to_value(kinds, form):
    """Return the list of a word and its parts, which are of these kinds."""
    parts = [("text", form[0])]
    for kind, part in zip(kinds, form[1:]):
        write = WRITERS[kind]
        parts.append(write(part))
    return ("list", tuple(parts))


def schema_to_value(schema):
    """Return the value that the schema becomes."""
    return form_to_value(SCHEMA_PARTS[schema[0]], schema)


def patch_to_value(patch):
    """Return the value that the patch becomes."""
    return ("list", tuple([form_to_value(STEP_PARTS[step[0]], step) for step in patch]))


WRITERS = {
    "bound": bound_to_value,
    "count": bound_to_value,
    "limit": bound_to_value,
    "number": bound_to_value,
    "value": same,
    "path": path_to_value,
    "target": path_to_value,
    "schema": schema_to_value,
    "schemas": schemas_to_value,
    "rows": rows_to_value,
    "patch": patch_to_value,
}


def content_of(kind, value):
    """Return what a value of the kind contains; a value of another kind has not the right form."""
    check(value[0] == kind)
    return value[1]


def string_from_value(value):
    """Return the string of a text."""
    text = content_of("text", value)
    check(is_plain_string(text))
    return text


def number_from_value(value):
    """Return the integer of an int."""
    number = content_of("int", value)
    check(not isinstance(number, bool))
    return number


def bound_from_value(value):
    """Return the integer of an int, or None for null."""
    return None if value == ("null",) else number_from_value(value)


def count_from_value(value):
    """Return the integer of an int that can bound a number of characters or items."""
    count = number_from_value(value)
    check(0 <= count <= MOST_CHARACTERS)
    return count


def limit_from_value(value):
    """Return the integer of an int that can bound a number of characters or items, or None for null."""
    return None if value == ("null",) else count_from_value(value)


def checked_value(value):
    """Return a value as it is, if all strings in it are such of point 3."""
    waiting = [value]
    while waiting:
        part = waiting.pop()
        if part[0] == "text":
            check(is_plain_string(part[1]))
        elif part[0] == "list":
            waiting.extend(part[1])
        elif part[0] == "object":
            check(all([is_plain_string(name) for name, _ in part[1]]))
            waiting.extend([inner for _, inner in part[1]])
    return value


def token_from_value(value):
    """Return the string or the integer of a token; it may be -1."""
    if value[0] == "text":
        return string_from_value(value)
    token = number_from_value(value)
    check(-1 <= token <= GREATEST_INDEX)
    return token


def target_from_value(value):
    """Return a path that may end with -1."""
    path = tuple([token_from_value(part) for part in content_of("list", value)])
    check(len(path) <= MOST_TOKENS and -1 not in path[:-1])
    return path


def path_from_value(value):
    """Return a path without -1."""
    path = target_from_value(value)
    check(-1 not in path)
    return path


def schemas_from_value(value):
    """Return the tuple of the schemas of a list."""
    return tuple([part_of_schema(part) for part in content_of("list", value)])


def row_from_value(value):
    """Return the name, the schema and whether it is required, for a field of an object schema."""
    parts = content_of("list", value)
    check(len(parts) == 3)
    return (string_from_value(parts[0]), part_of_schema(parts[1]), content_of("bool", parts[2]))


def rows_from_value(value):
    """Return the fields of an object schema."""
    rows = tuple([row_from_value(part) for part in content_of("list", value)])
    check(len(rows) == len(set([row[0] for row in rows])))
    return rows


def word_of(value):
    """Return the word of a list of a word and its parts."""
    items = content_of("list", value)
    check(len(items) > 0)
    return string_from_value(items[0])


def form_from_value(kinds, value):
    """Return a word and its parts, from a list of them; `kinds` tells what the parts are, or is None for no word."""
    items = value[1]
    check(kinds is not None and len(items) == len(kinds) + 1)
    parts = [items[0][1]]
    for kind, item in zip(kinds, items[1:]):
        read = READERS[kind]
        parts.append(read(item))
    return tuple(parts)


def part_of_schema(value):
    """Return a schema, of which it has not been asked how large and how deep it is."""
    return form_from_value(SCHEMA_PARTS.get(word_of(value)), value)


def part_of_step(value):
    """Return a step of a patch, of which it has not been asked how large and how deep it is."""
    return form_from_value(STEP_PARTS.get(word_of(value)), value)


def part_of_patch(value):
    """Return a patch, of which it has not been asked how large and how deep it is."""
    return tuple([part_of_step(item) for item in content_of("list", value)])


READERS = {
    "bound": bound_from_value,
    "count": count_from_value,
    "limit": limit_from_value,
    "number": number_from_value,
    "value": checked_value,
    "path": path_from_value,
    "target": target_from_value,
    "schema": part_of_schema,
    "schemas": schemas_from_value,
    "rows": rows_from_value,
    "patch": part_of_patch,
}


def schema_from_value(value):
    """Return the schema that becomes the value, or raise InvalidForm if there is none."""
    schema = part_of_schema(value)
    check(schemas_within_bounds([schema]))
    return schema


def patch_from_value(value):
    """Return the patch that becomes the value, or raise InvalidForm if there is none."""
    patch = part_of_patch(value)
    check(patch_within_bounds(patch))
    return patch
