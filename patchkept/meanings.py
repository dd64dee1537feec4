"""Formulas that say what values and schemas mean (points 11 and 15)."""


def bounded_formula(kind, word, low, high):
    """Return the formula of the values of the kind from `low` to `high`; None is no bound.

    `word` is that of the formula which holds at the values of this kind from a number on.
    """
    parts = [("kind", kind) if low is None else (word, low)]
    if high is not None:
        parts.append(("not", (word, high + 1)))
    return ("and", tuple(parts))


def items_formula(formulas):
    """Return the formula of the lists with one item for each of the formulas, at which that formula holds."""
    count = len(formulas)
    parts = [bounded_formula("list", "items_from", count, count)]
    parts.extend([("at", (index,), formula) for index, formula in enumerate(formulas)])
    return ("and", tuple(parts))


def field_formula(name, formula, required):
    """Return the formula of the objects whose field of this name is valid; it may be missing if not required."""
    valid = ("at", (name,), formula)
    if required:
        return valid
    return ("or", (valid, ("not", ("at", (name,), ("true",)))))


def fields_formula(rows, others):
    """Return the formula of the objects with fields by the rows, and by the formula `others` besides.

    A row is a name, a formula, and whether the field is required.
    """
    names = tuple([row[0] for row in rows])
    parts = [("each_field", names, others)]
    parts.extend([field_formula(name, formula, required) for name, formula, required in rows])
    return ("and", tuple(parts))


def equal_formula(value):
    """Return a plain formula that holds at this value alone."""
    kind = value[0]
    if kind == "null":
        return ("kind", "null")
    if kind == "bool":
        return ("bool_is", value[1])
    if kind == "int":
        return bounded_formula("int", "int_from", value[1], value[1])
    if kind == "text":
        return ("text_is", value[1])
    if kind == "list":
        return items_formula([equal_formula(item) for item in value[1]])
    rows = [(name, equal_formula(part), True) for name, part in value[1]]
    return fields_formula(rows, ("false",))


def list_formula(schema):
    """Return the formula of a list schema."""
    _, inner, low, high = schema
    counted = bounded_formula("list", "items_from", low, high)
    return ("and", (counted, ("each_item", 0, schema_formula(inner))))


def object_formula(schema):
    """Return the formula of an object schema."""
    _, listed, others = schema
    rows = [(name, schema_formula(inner), required) for name, inner, required in listed]
    return fields_formula(rows, schema_formula(others))


def formula_of_leaf(schema):
    """Return the formula of a schema that contains no other one."""
    word = schema[0]
    if word == "any":
        return ("true",)
    if word == "never":
        return ("false",)
    if word == "int":
        return bounded_formula("int", "int_from", schema[1], schema[2])
    if word == "text":
        return bounded_formula("text", "text_from", schema[1], schema[2])
    if word == "const":
        return equal_formula(schema[1])
    return ("kind", word)


def schema_formula(schema):
    """Return a plain formula that holds at exactly the values that are valid by the schema."""
    word = schema[0]
    if word == "list":
        return list_formula(schema)
    if word == "tuple":
        return items_formula([schema_formula(inner) for inner in schema[1]])
    if word == "object":
        return object_formula(schema)
    if word == "either":
        return ("or", tuple([schema_formula(inner) for inner in schema[1]]))
    if word == "all":
        return ("and", tuple([schema_formula(inner) for inner in schema[1]]))
    if word == "not":
        return ("not", schema_formula(schema[1]))
    return formula_of_leaf(schema)
