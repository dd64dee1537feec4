"""Judging patches and schemas for all values at once (points 19 and 20)."""

from patchkept.conditions import before
from patchkept.meanings import schema_formula
from patchkept.search import example_of
from patchkept.shapes import TRUE, conjunction, negation


def judge(schema, patch, after):
    """Return ("kept",), or ("breaks", value) with a value by which the patch breaks the contract of the schemas."""
    broken = before(patch, negation(schema_formula(after)))
    value = example_of(conjunction([schema_formula(schema), broken]))
    return ("kept",) if value is None else ("breaks", value)


def always_applies(schema, patch):
    """Return ("applies",), or ("fails", value) with a value that is valid and for which the patch fails."""
    value = example_of(conjunction([schema_formula(schema), negation(before(patch, TRUE))]))
    return ("applies",) if value is None else ("fails", value)


def within(schema, other):
    """Return ("within",), or ("outside", value) with a value that is valid by the first schema alone."""
    value = example_of(conjunction([schema_formula(schema), negation(schema_formula(other))]))
    return ("within",) if value is None else ("outside", value)


def common(schema, other):
    """Return a value that is valid by both schemas, or None if there is none."""
    return example_of(conjunction([schema_formula(schema), schema_formula(other)]))


def guard(patch, schema):
    """Return the formula of the values for which the patch fails or leaves a value that is valid by the schema."""
    return negation(before(patch, negation(schema_formula(schema))))
