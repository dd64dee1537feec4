"""The formulas of values and of schemas (points 11 and 15)."""

import random
import unittest

from patchkept import meanings
from patchkept.formulas import holds
from patchkept.meanings import equal_formula, schema_formula
from patchkept.schemas import is_valid
from patchkept.values import depth_of
from tests.helpers import (
    KINDS, NULL, check_interface, consists_of_tuples, fields, fitting_value, formulas_in, ints, made_schema,
    made_value, nesting_of, remade, texts, variants,
)

ANY, NEVER = ("any",), ("never",)
YES, NO = ("bool", True), ("bool", False)
ONE = ("int", 1)
EMPTY_LIST, EMPTY_OBJECT = ("list", ()), ("object", ())
BIG = 10 ** 60 - 1
MIXED = fields(
    a=ints(1, 2, 3), b=fields(c=EMPTY_LIST, d=EMPTY_OBJECT, e=NO), f=("list", (NULL, fields(g=("text", "h")))),
)
VALUES = [
    NULL, YES, NO, ("int", 0), ONE, ("int", -1), ("int", BIG), ("int", -BIG),
    ("text", ""), ("text", "a"), ("text", "ab"), ("text", "null"),
    EMPTY_LIST, ints(1), ints(1, 2), ints(2, 1), ints(1, 1), ints(1, 2, 3), texts("1", "2"),
    ("list", (EMPTY_LIST,)), ("list", (NULL, YES)),
    EMPTY_OBJECT, fields(a=ONE), fields(b=ONE), fields(a=ONE, b=ONE), fields(a=ONE, b=("int", 2)),
    fields(a=EMPTY_OBJECT), fields(a=fields(a=ONE)), ("object", (("", NULL),)),
    ("object", (("0", ONE), ("1", ("int", 2)))),
    MIXED, ("list", (MIXED, fields(a=MIXED), EMPTY_LIST)),
]


def is_count(number):
    return type(number) is int and number >= 0


def is_path(path):
    return isinstance(path, tuple) and all(isinstance(token, str) or is_count(token) for token in path)


def is_plain(formula):
    """Whether this is a plain formula by the words of point 15."""
    match formula:
        case ("true",) | ("false",):
            return True
        case ("kind", word):
            return word in KINDS
        case ("int_from", number):
            return type(number) is int
        case ("bool_is", flag):
            return type(flag) is bool
        case ("text_is", string):
            return isinstance(string, str)
        case ("text_from", count) | ("items_from", count):
            return is_count(count)
        case ("and", parts) | ("or", parts):
            return isinstance(parts, tuple) and all(map(is_plain, parts))
        case ("not", _):
            return is_plain(formula[1])
        case ("at", path, inner):
            return is_path(path) and is_plain(inner)
        case ("each_item", index, inner):
            return is_count(index) and is_plain(inner)
        case ("each_field", names, inner):
            return isinstance(names, tuple) and all(isinstance(name, str) for name in names) and is_plain(inner)
    return False


def levels_of(formula):
    """How many levels a formula has in the sense of point 18."""
    own = len(formula[1]) if formula[0] == "at" else int(formula[0] in ("each_item", "each_field"))
    return own + max([levels_of(inner) for inner in formulas_in(formula)], default=0)


def in_lists(value, depth):
    return ("list", (value,))


def in_objects(value, depth):
    return fields(a=value)


def in_both(value, depth):
    return in_lists(value, depth) if depth % 2 else in_objects(value, depth)


def in_wider_ones(value, depth):
    return ("list", (NULL, value, YES)) if depth % 2 else fields(a=NULL, b=value, c=EMPTY_LIST)


def chain(depth, leaf, around):
    value = leaf
    for level in range(1, depth):
        value = around(value, level)
    return value


class Interface(unittest.TestCase):
    def test_names_and_arguments(self):
        check_interface(self, meanings, {"equal_formula": ["value"], "schema_formula": ["schema"]})


class EqualFormula(unittest.TestCase):
    def check(self, value, others):
        formula = equal_formula(value)
        self.assertTrue(is_plain(formula))
        self.assertLessEqual(nesting_of(formula), 70)
        with self.subTest(value=value):
            self.assertIs(holds(formula, value), True)
            self.assertIs(holds(formula, remade(value)), True)
        for other in others:
            with self.subTest(value=value, other=other):
                self.assertIs(holds(formula, other), False)

    def test_at_the_value_and_at_other_values(self):
        for value in VALUES:
            self.check(value, [other for other in VALUES if other != value])

    def test_at_values_that_differ_in_one_place(self):
        for value in VALUES:
            self.check(value, variants(value))
        self.assertGreater(len(variants(MIXED)), 100)

    def test_a_field_more_or_less(self):
        self.check(fields(a=ONE, b=NULL), [
            fields(a=ONE), fields(b=NULL), EMPTY_OBJECT, fields(a=ONE, b=NULL, c=NULL), fields(A=NULL, a=ONE, b=NULL),
        ])
        self.check(EMPTY_OBJECT, [fields(a=NULL), ("object", (("", NULL),)), EMPTY_LIST])

    def test_a_field_renamed(self):
        self.check(fields(a=ONE, b=NULL), [fields(a=ONE, c=NULL), fields(b=NULL, c=ONE), fields(a=NULL, b=ONE)])
        self.check(fields(a=ONE), [fields(b=ONE), fields(A=ONE), fields(aa=ONE), ("object", (("", ONE),))])

    def test_an_item_more_or_less(self):
        self.check(ints(1, 1), [ints(1), ints(1, 1, 1), EMPTY_LIST, ints(1, 1, 1, 1)])
        self.check(EMPTY_LIST, [("list", (NULL,)), ("list", (EMPTY_LIST,)), EMPTY_OBJECT])

    def test_two_items_exchanged(self):
        self.check(ints(1, 2, 3), [ints(2, 1, 3), ints(3, 2, 1), ints(1, 3, 2)])
        self.check(("list", (ints(1, 2), ints(2, 1))), [("list", (ints(2, 1), ints(1, 2)))])

    def test_a_leaf_of_another_kind(self):
        self.check(ints(1, 0), [("list", (YES, ("int", 0))), ("list", (ONE, NO)), ("list", (ONE, NULL))])
        self.check(ints(1, 0), [texts("1", "0"), ("list", (ONE, EMPTY_LIST)), ("list", (ONE, ("text", "")))])
        self.check(fields(a=NULL), [fields(a=("text", "null")), fields(a=EMPTY_OBJECT), fields(a=NO)])
        self.check(fields(a=EMPTY_LIST), [fields(a=EMPTY_OBJECT), fields(a=("text", "")), fields(a=NULL)])

    def test_an_int_that_is_1_off(self):
        for number in (0, 1, -1, 7, BIG, -BIG):
            self.check(("int", number), [("int", number - 1), ("int", number + 1)])
            self.check(fields(a=ints(5, number)), [fields(a=ints(5, number - 1)), fields(a=ints(5, number + 1))])

    def test_a_text_with_one_character_more_or_less(self):
        for text in ("", " ", "a", "ab", "null", "\\\"", "x" * 40):
            others = [text + "a", text + " ", " " + text, text[1:], text[:-1], text.upper()]
            self.check(("text", text), [("text", other) for other in others if other != text])

    def test_bools(self):
        self.check(YES, [NO, ONE])
        self.check(NO, [YES, ("int", 0), NULL])

    def test_values_of_depth_20(self):
        for around in (in_lists, in_objects, in_both, in_wider_ones):
            for leaf, other in ((ONE, ("int", 2)), (EMPTY_LIST, EMPTY_OBJECT), (NULL, NO), (EMPTY_OBJECT, EMPTY_LIST)):
                value = chain(20, leaf, around)
                self.assertEqual(depth_of(value), 20)
                self.check(value, [chain(20, other, around), chain(19, leaf, around), chain(21, leaf, around)])
                self.assertLessEqual(levels_of(equal_formula(value)), 20)

    def test_many_items_and_fields(self):
        self.check(ints(*range(200)), [ints(*range(199)), ints(*range(201)), ints(*range(1, 201))])
        named = {f"n{number}": ("int", number) for number in range(200)}
        self.check(fields(**named), [fields(**{**named, "n7": ONE}), fields(**named, n200=ONE)])

    def test_made_up_values(self):
        rng = random.Random(41)
        for _ in range(300):
            value = made_value(rng, 4)
            others = [made_value(rng, 4) for _ in range(20)]
            self.check(value, [other for other in others if other != value])

    def test_the_value_is_as_before_and_equal_values_have_equal_formulas(self):
        for value in VALUES:
            before = repr(value)
            self.assertEqual(equal_formula(value), equal_formula(remade(value)))
            self.assertTrue(consists_of_tuples(equal_formula(value)))
            self.assertEqual(repr(value), before)


ONE_TO_NINE = ("int", 1, 9)
SCHEMAS = [
    ANY, NEVER, NULL, ("bool",),
    ("int", None, None), ("int", 1, None), ("int", None, 1), ("int", 0, 2), ("int", 1, 1), ("int", 2, 1),
    ("int", BIG, None), ("int", None, -BIG), ("int", 1 - BIG, BIG - 1), ("int", BIG, BIG),
    ("text", 0, None), ("text", 1, None), ("text", 0, 0), ("text", 1, 2), ("text", 2, 2), ("text", 2, 1),
    ("text", 30, 30),
    ("const", NULL), ("const", YES), ("const", ONE), ("const", ("text", "ab")), ("const", ints(1, 2)),
    ("const", MIXED), ("const", EMPTY_LIST), ("const", EMPTY_OBJECT),
    ("list", ANY, 0, None), ("list", NEVER, 0, None), ("list", ("int", 1, 2), 0, None), ("list", ANY, 2, None),
    ("list", ANY, 0, 1), ("list", ("int", 0, 5), 1, 2), ("list", ANY, 2, 2), ("list", ANY, 2, 1),
    ("list", NEVER, 1, None),
    ("tuple", ()), ("tuple", (ANY,)), ("tuple", (("int", 1, 1), ("int", 2, 2))), ("tuple", (ANY, NEVER)),
    ("tuple", (NULL, ("bool",), ANY)),
    ("object", (), ANY), ("object", (), NEVER), ("object", (), ("int", 1, 1)),
    ("object", (("a", ANY, True),), ANY), ("object", (("a", ANY, True),), NEVER),
    ("object", (("a", ANY, False),), NEVER), ("object", (("a", ("int", 1, 1), False),), ANY),
    ("object", (("a", NEVER, False),), ANY), ("object", (("a", NEVER, True),), ANY),
    ("object", (("b", ("int", 2, 2), True), ("a", ("int", 1, 1), False)), NEVER),
    ("object", (("b", ANY, False), ("a", ("object", (), ANY), True)), ("list", ANY, 0, None)),
    ("either", ()), ("either", (NULL,)), ("either", (NULL, ("bool",), ("int", 0, 1))),
    ("all", ()), ("all", (NULL,)), ("all", (("int", 0, None), ("int", None, 1))),
    ("all", (("list", ANY, 1, None), NEVER)),
    ("not", ANY), ("not", NEVER), ("not", ("int", 0, 1)), ("not", ("not", NULL)), ("not", ("const", MIXED)),
    ("not", ("object", (("a", ANY, True),), ANY)), ("not", ("either", ())), ("not", ("all", ())),
]


class SchemaFormula(unittest.TestCase):
    def check(self, schema, values):
        """Return the flags that there are at the values."""
        formula = schema_formula(schema)
        self.assertTrue(is_plain(formula), schema)
        self.assertLessEqual(nesting_of(formula), 70, schema)
        found = set()
        for value in values:
            flag = is_valid(schema, value)
            self.assertIs(holds(formula, value), flag, (schema, value))
            found.add(flag)
        return found

    def test_the_same_flag_as_is_valid(self):
        values = VALUES + variants(MIXED) + [("text", "x" * count) for count in (29, 30, 31)]
        values += [("int", sign * BIG + off) for sign in (1, -1) for off in (-2, -1, 1, 2)]
        words = {}
        for schema in SCHEMAS:
            words.setdefault(schema[0], set()).update(self.check(schema, values))
        self.assertEqual(len(words), 13)
        self.assertEqual(sorted(word for word in words if len(words[word]) < 2), ["any", "never"])

    def test_schemas_within_schemas(self):
        for inner in SCHEMAS:
            for schema in (
                ("list", inner, 0, None), ("tuple", (inner, ANY)), ("object", (("a", inner, False),), ANY),
                ("object", (("b", inner, True),), inner), ("not", inner), ("either", (inner, ("int", 1, 1))),
                ("all", (ANY, inner)),
            ):
                self.check(schema, VALUES)

    def test_made_up_schemas(self):
        rng = random.Random(42)
        flags = {True: 0, False: 0}
        for _ in range(4000):
            schema = made_schema(rng, rng.randrange(1, 5))
            values = [made_value(rng, 4), fitting_value(rng, schema, 6), fitting_value(rng, schema, 6)]
            for flag in self.check(schema, values):
                flags[flag] += 1
        self.assertGreater(min(flags.values()), 1000)

    def test_a_const_has_the_formula_of_its_value(self):
        for value in VALUES:
            formula = schema_formula(("const", value))
            for other in VALUES + variants(value):
                self.assertIs(holds(formula, other), other == value)

    def test_counts_and_numbers_at_and_beside_each_bound(self):
        for low in range(4):
            for high in (None, 0, 1, 2, 3, 4):
                self.check(("int", low, high), [("int", number) for number in range(-1, 6)])
                self.check(("int", -low, high), [("int", number) for number in range(-5, 6)])
                self.check(("text", low, high), [("text", "x" * count) for count in range(6)])
                self.check(("list", ANY, low, high), [ints(*range(count)) for count in range(6)])

    def test_the_greatest_bounds(self):
        self.assertEqual(self.check(("list", ONE_TO_NINE, 30, 30), [ints(*[5] * count) for count in (29, 30, 31)]),
                         {True, False})
        self.check(("list", ONE_TO_NINE, 30, None), [ints(*[5] * 30), ints(*[5] * 29), ints(*[5] * 30, 10)])
        self.check(("text", 0, 30), [("text", "x" * 30), ("text", "x" * 31)])

    def test_nested_6_deep_with_a_const_of_depth_20(self):
        outer = [
            lambda inner, value: (("object", (("a", inner, False),), NEVER), fields(a=value)),
            lambda inner, value: (("object", (("a", ANY, True),), inner), fields(a=NULL, b=value)),
            lambda inner, value: (("list", inner, 0, 5), ("list", (value, value))),
            lambda inner, value: (("tuple", (ANY, inner)), ("list", (NULL, value))),
            lambda inner, value: (("all", (inner, ("not", ("not", inner)))), value),
            lambda inner, value: (("not", ("not", inner)), value),
        ]
        for around in outer:
            for inner in (in_lists, in_objects, in_both):
                value, other = chain(20, ONE, inner), chain(20, NO, inner)
                schema = ("const", value)
                for _ in range(5):
                    outermost, value = around(schema, value)
                    schema, other = around(schema, other)
                    self.assertEqual(schema, outermost)
                self.assertEqual(self.check(schema, [value]), {True})
                self.assertEqual(self.check(schema, [other]), {False})
                self.assertLessEqual(levels_of(schema_formula(schema)), 30)

    def test_the_schema_is_as_before_and_equal_schemas_have_equal_formulas(self):
        for schema in SCHEMAS:
            before = repr(schema)
            self.assertEqual(schema_formula(schema), schema_formula(remade(schema)))
            self.assertTrue(consists_of_tuples(schema_formula(schema)))
            self.assertEqual(repr(schema), before)


if __name__ == "__main__":
    unittest.main()
