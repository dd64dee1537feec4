"""How large and how deep schemas and patches are, and whether that is within the bounds (points 11 and 12)."""

from patchkept.values import size_of

MOST_SCHEMAS = 30
DEEPEST_SCHEMA = 6
MOST_STEPS = 8
MOST_WHENS = 3
DEEPEST_PATCH = 3
MOST_VALUES = 20


def inner_schemas(schema):
    """Return the list of the schemas that a schema contains directly."""
    word = schema[0]
    if word == "list" or word == "not":
        return [schema[1]]
    if word == "tuple" or word == "either" or word == "all":
        return list(schema[1])
    if word == "object":
        return [row[1] for row in schema[1]] + [schema[2]]
    return []


def inner_steps(step):
    """Return the list of the steps of the patches that a step contains directly."""
    if step[0] == "each":
        return list(step[2])
    return list(step[3] + step[4]) if step[0] == "when" else []


def levels_of_schemas(schemas):
    """Return the list of the levels of schemas: these, the ones directly within these, and so on."""
    levels = []
    level = schemas
    while level:
        levels.append(level)
        level = [inner for schema in level for inner in inner_schemas(schema)]
    return levels


def levels_of_steps(patch):
    """Return the list of the levels of the steps of a patch: its own, the ones directly within these, and so on."""
    levels = []
    level = list(patch)
    while level:
        levels.append(level)
        level = [inner for step in level for inner in inner_steps(step)]
    return levels


def total_size(values):
    """Return the size of the values together."""
    return sum([size_of(value) for value in values])


def schemas_within_bounds(schemas):
    """Return True if the schemas together are not too many, none is too deep, and their consts are not too large."""
    levels = levels_of_schemas(schemas)
    within = [schema for level in levels for schema in level]
    consts = [schema[1] for schema in within if schema[0] == "const"]
    return len(levels) <= DEEPEST_SCHEMA and len(within) <= MOST_SCHEMAS and total_size(consts) <= MOST_VALUES


def nesting_of_patch(patch):
    """Return how deep a patch is nested; one without each and when is nested 1 deep."""
    levels = levels_of_steps(patch)
    # A patch without steps counts as a level too, and its each or when may be the last one that has steps.
    opens_more = bool(levels) and any([step[0] == "each" or step[0] == "when" for step in levels[-1]])
    return max(len(levels), 1) + (1 if opens_more else 0)


def patch_within_bounds(patch):
    """Return True if the steps of the patch, its values and its schemas are not too many, too deep or too large."""
    steps = [step for level in levels_of_steps(patch) for step in level]
    whens = [step for step in steps if step[0] == "when"]
    values = [step[2] for step in steps if step[0] in ("test", "add", "replace")]
    return (
        len(steps) <= MOST_STEPS
        and len(whens) <= MOST_WHENS
        and nesting_of_patch(patch) <= DEEPEST_PATCH
        and total_size(values) <= MOST_VALUES
        and schemas_within_bounds([step[2] for step in whens])
    )
