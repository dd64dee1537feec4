"""Which values are valid by a schema (point 11)."""


def in_bounds(number, low, high):
    """Return True if the number is from `low` to `high`, inclusive; None is no bound."""
    return (low is None or number >= low) and (high is None or number <= high)


def valid_int(schema, value):
    """Return True for an int within the bounds of the schema."""
    _, low, high = schema
    return value[0] == "int" and in_bounds(value[1], low, high)


def valid_text(schema, value):
    """Return True for a text with as many characters as the schema asks for."""
    _, low, high = schema
    return value[0] == "text" and in_bounds(len(value[1]), low, high)


def valid_const(schema, value):
    """Return True for the value of the schema alone."""
    return value == schema[1]


def valid_list(schema, value):
    """Return True for a list with as many items as the schema asks for, all of them valid."""
    _, inner, low, high = schema
    if value[0] != "list" or not in_bounds(len(value[1]), low, high):
        return False
    return all(is_valid(inner, item) for item in value[1])


def valid_tuple(schema, value):
    """Return True for a list with one item for each schema, valid by the schema at its index."""
    inner = schema[1]
    if value[0] != "list" or len(value[1]) != len(inner):
        return False
    return all([is_valid(part, item) for part, item in zip(inner, value[1])])


def valid_object(schema, value):
    """Return True for an object with the required fields, each of its fields valid by its own schema."""
    _, rows, others = schema
    if value[0] != "object":
        return False
    fields = dict(value[1])
    for name, _, required in rows:
        if required and name not in fields:
            return False
    listed = {row[0]: row[1] for row in rows}
    return all(is_valid(listed.get(field[0], others), field[1]) for field in value[1])


def valid_either(schema, value):
    """Return True for a value that is valid by at least one of the schemas."""
    return any(is_valid(inner, value) for inner in schema[1])


def valid_all(schema, value):
    """Return True for a value that is valid by each of the schemas."""
    return all(is_valid(inner, value) for inner in schema[1])


def valid_not(schema, value):
    """Return True for a value that is not valid by the schema within."""
    return not is_valid(schema[1], value)


CHECKS = {
    "int": valid_int,
    "text": valid_text,
    "const": valid_const,
    "list": valid_list,
    "tuple": valid_tuple,
    "object": valid_object,
    "either": valid_either,
    "all": valid_all,
    "not": valid_not,
}


def is_valid(schema, value):
    """Return True if the value is valid by the schema, otherwise False."""
    word = schema[0]
    if word == "any":
        return True
    if word == "never":
        return False
    if word == "null" or word == "bool":
        return value[0] == word
    check = CHECKS[word]
    return check(schema, value)
