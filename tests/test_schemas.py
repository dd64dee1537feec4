"""Schemas and the values that are valid by them (point 11)."""

import random
import unittest

from patchkept import schemas
from patchkept.schemas import is_valid
from tests.helpers import (
    NULL, check_interface, fields, fitting_value, ints, made_schema, made_value, remade, texts, to_plain,
    variants,
)

ANY, NEVER = ("any",), ("never",)
YES, NO = ("bool", True), ("bool", False)
EMPTY_LIST, EMPTY_OBJECT = ("list", ()), ("object", ())
ONE_OF_EACH = [NULL, YES, NO, ("int", 0), ("int", 1), ("text", ""), ("text", "ab"), EMPTY_LIST, EMPTY_OBJECT,
               ("list", (NULL,)), ("object", (("a", NULL),))]
BIG = 10 ** 60 - 1
NESTED = ("object", (
    ("a", ("list", (("int", 1), ("object", (("b", YES), ("c", ("text", "null")))), EMPTY_LIST))),
    ("d", NULL),
))


def in_range(number, low, high):
    return not (low is not None and number < low or high is not None and number > high)


def model(schema, plain):
    """Whether a value in the plain form is valid by the schema."""
    match schema:
        case ("any",):
            return True
        case ("null",) | ("bool",):
            return isinstance(plain, tuple) and plain[0] == schema[0]
        case ("int", low, high):
            return isinstance(plain, tuple) and plain[0] == "int" and in_range(plain[1], low, high)
        case ("text", low, high):
            return isinstance(plain, tuple) and plain[0] == "text" and in_range(len(plain[1]), low, high)
        case ("const", value):
            return plain == to_plain(value)
        case ("list", inner, low, high):
            return isinstance(plain, list) and in_range(len(plain), low, high) and all(model(inner, x) for x in plain)
        case ("tuple", parts):
            return isinstance(plain, list) and len(plain) == len(parts) and all(map(model, parts, plain))
        case ("object", rows, others):
            if not isinstance(plain, dict) or {row[0] for row in rows if row[2]} - set(plain):
                return False
            inner = {**{name: others for name in plain}, **{row[0]: row[1] for row in rows}}
            return all(model(inner[name], plain[name]) for name in plain)
        case ("either", parts):
            return True in [model(part, plain) for part in parts]
        case ("all", parts):
            return False not in [model(part, plain) for part in parts]
        case ("not", inner):
            return not model(inner, plain)
    return False


class Schemas(unittest.TestCase):
    def check(self, schema, valid, invalid):
        for values, expected in ((valid, True), (invalid, False)):
            for value in values:
                with self.subTest(schema=schema, value=value):
                    self.assertIs(is_valid(schema, value), expected)
                    self.assertIs(is_valid(("not", schema), value), not expected)

    def kinds_except(self, kind):
        return [value for value in ONE_OF_EACH if value[0] != kind]


class Interface(unittest.TestCase):
    def test_names_and_arguments(self):
        check_interface(self, schemas, {"is_valid": ["schema", "value"]})

    def test_examples_of_the_document(self):
        schema = ("object", (("id", ("int", 1, None), True), ("tags", ("list", ("text", 1, 3), 0, None), False)), NEVER)
        self.assertIs(is_valid(schema, ("object", (("id", ("int", 7)), ("tags", texts("a"))))), True)
        self.assertIs(is_valid(schema, ("object", (("id", ("int", 7)), ("name", NULL)))), False)


class Leaves(Schemas):
    def test_any_and_never(self):
        self.check(ANY, ONE_OF_EACH + [NESTED], [])
        self.check(NEVER, [], ONE_OF_EACH + [NESTED])

    def test_null(self):
        self.check(("null",), [NULL], self.kinds_except("null"))

    def test_bool(self):
        self.check(("bool",), [YES, NO], self.kinds_except("bool"))

    def test_int_without_bounds(self):
        self.check(("int", None, None), [("int", 0), ("int", 1), ("int", -BIG), ("int", BIG)], self.kinds_except("int"))

    def test_int_with_a_bound_below(self):
        self.check(("int", 3, None), [("int", 3), ("int", 4), ("int", BIG)], [("int", 2), ("int", 0), ("int", -3)])
        self.check(("int", -3, None), [("int", -3), ("int", -2), ("int", 3)], [("int", -4), ("int", -BIG)])
        self.check(("int", 0, None), [("int", 0), ("int", 1)], [("int", -1)] + self.kinds_except("int"))

    def test_int_with_a_bound_above(self):
        self.check(("int", None, 3), [("int", 3), ("int", 2), ("int", -BIG)], [("int", 4), ("int", BIG)])
        self.check(("int", None, 0), [("int", 0), ("int", -1)], [("int", 1)] + self.kinds_except("int"))

    def test_int_with_both_bounds(self):
        self.check(("int", -1, 2), [("int", number) for number in (-1, 0, 1, 2)], [("int", -2), ("int", 3)])
        self.check(("int", 0, 9), [("int", 0), ("int", 9)], [("int", -1), ("int", 10)] + self.kinds_except("int"))

    def test_int_with_equal_bounds(self):
        self.check(("int", 5, 5), [("int", 5)], [("int", 4), ("int", 6), ("int", -5)])
        self.check(("int", 1, 1), [("int", 1)], [("int", 0), YES, ("text", "1")])

    def test_int_with_bounds_the_wrong_way_round(self):
        self.check(("int", 2, 1), [], [("int", number) for number in range(-1, 5)])
        self.check(("int", 9, -9), [], [("int", number) for number in (-10, -9, 0, 9, 10)])

    def test_int_with_bounds_of_60_digits(self):
        low, high = BIG - 1, BIG
        self.check(("int", low, high), [("int", low), ("int", high)], [("int", low - 1), ("int", high + 1)])
        self.check(("int", -high, -low), [("int", -low), ("int", -high)], [("int", 1 - low), ("int", -high - 1)])
        self.check(("int", -BIG, BIG), [("int", 0), ("int", BIG), ("int", -BIG)], [("int", BIG + 1), ("int", -BIG - 1)])

    def test_a_bool_where_an_int_is_asked_and_the_other_way_round(self):
        self.check(("int", None, None), [("int", 0), ("int", 1)], [YES, NO])
        self.check(("int", 0, 1), [("int", 0), ("int", 1)], [YES, NO])
        self.check(("bool",), [YES, NO], [("int", 0), ("int", 1)])
        self.check(("const", YES), [YES], [("int", 1), NO])
        self.check(("const", ("int", 1)), [("int", 1)], [YES])
        self.check(("const", NO), [NO], [("int", 0), YES])
        self.check(("const", ("int", 0)), [("int", 0)], [NO])

    def test_text_without_a_bound_above(self):
        self.check(("text", 0, None), [("text", ""), ("text", " "), ("text", "x" * 1000)], self.kinds_except("text"))
        self.check(("text", 2, None), [("text", "ab"), ("text", "abc")], [("text", "a"), ("text", "")])
        self.check(("text", 30, None), [("text", "x" * 30), ("text", "x" * 31)], [("text", "x" * 29)])

    def test_text_with_both_bounds(self):
        self.check(("text", 1, 3), [("text", "a"), ("text", "ab"), ("text", "abc")], [("text", ""), ("text", "abcd")])
        self.check(("text", 0, 30), [("text", ""), ("text", "x" * 30)], [("text", "x" * 31)])
        self.check(("text", 0, 0), [("text", "")], [("text", " "), NULL, EMPTY_LIST])
        self.check(("text", 2, 2), [("text", "ab")], [("text", "a"), ("text", "abc"), ("int", 2), ints(1, 2)])

    def test_text_with_bounds_the_wrong_way_round(self):
        self.check(("text", 2, 1), [], [("text", "x" * count) for count in range(4)])
        self.check(("text", 30, 0), [], [("text", "x" * count) for count in (0, 1, 15, 29, 30, 31)])

    def test_characters_count_as_they_are(self):
        two, one = ("\\\\", "\"\"", "  "), ("\\", "\"", " ")
        self.check(("text", 2, 2), [("text", text) for text in two], [("text", text) for text in one])

    def test_const_of_a_leaf(self):
        for value in ONE_OF_EACH:
            self.check(("const", value), [remade(value)], [other for other in ONE_OF_EACH if other != value])

    def test_const_of_a_nested_value(self):
        self.check(("const", NESTED), [NESTED, remade(NESTED)], variants(NESTED))
        self.assertGreater(len(variants(NESTED)), 80)

    def test_const_is_about_all_of_the_value(self):
        self.check(("const", ints(1, 2)), [ints(1, 2)], [ints(1), ints(2, 1), ints(1, 2, 2), ("int", 1)])
        self.check(("const", EMPTY_OBJECT), [EMPTY_OBJECT], [EMPTY_LIST, NULL, fields(a=NULL)])


class Lists(Schemas):
    def test_list_without_a_bound_above(self):
        schema = ("list", ("int", 0, 9), 0, None)
        self.check(schema, [EMPTY_LIST, ints(0), ints(9, 0, 5), ints(*[3] * 500)], self.kinds_except("list"))
        self.check(schema, [], [ints(10), ints(1, 10), ints(-1, 1), ints(1, 2, -1, 3)])
        self.check(schema, [], [texts("a"), ("list", (ints(1),)), ("list", (("int", 1), NULL))])

    def test_number_of_items(self):
        items = [ints(*range(count)) for count in range(6)]
        whole = ("int", None, None)
        self.check(("list", whole, 2, None), items[2:], items[:2])
        self.check(("list", whole, 0, 2), items[:3], items[3:])
        self.check(("list", whole, 2, 3), items[2:4], items[:2] + items[4:])
        self.check(("list", whole, 3, 3), [items[3]], items[:3] + items[4:])
        self.check(("list", whole, 0, 0), [items[0]], items[1:] + [EMPTY_OBJECT, ("text", "")])
        self.check(("list", whole, 3, 2), [], items)
        self.check(("list", whole, 30, 30), [ints(*range(30))], [ints(*range(29)), ints(*range(31))])

    def test_each_item_counts_wherever_it_stands(self):
        for count in range(1, 6):
            for index in range(count):
                strings = ["a"] * count
                self.check(("list", ("text", 1, 1), 0, None), [texts(*strings)], [])
                strings[index] = "ab"
                self.check(("list", ("text", 1, 1), 0, None), [], [texts(*strings)])

    def test_no_item_may_be_valid(self):
        self.check(("list", NEVER, 0, None), [EMPTY_LIST], [ints(1), EMPTY_OBJECT])
        self.check(("list", NEVER, 1, None), [], [EMPTY_LIST, ints(1)])

    def test_tuple(self):
        schema = ("tuple", (("int", 0, None), ("text", 0, None), ANY))
        good = ("list", (("int", 1), ("text", "a"), NULL))
        self.check(schema, [good, ("list", (("int", 0), ("text", ""), good))], self.kinds_except("list"))
        self.check(schema, [], [("list", good[1][:count]) for count in range(3)] + [("list", good[1] + (NULL,))])

    def test_each_item_of_a_tuple_has_its_own_schema(self):
        schema = ("tuple", (("int", 1, 1), ("int", 2, 2), ("int", 3, 3)))
        wrong = [ints(0, 2, 3), ints(1, 0, 3), ints(1, 2, 0), ints(3, 2, 1), ints(2, 1, 3), ints(1, 1, 1)]
        self.check(schema, [ints(1, 2, 3)], wrong)

    def test_empty_tuple(self):
        self.check(("tuple", ()), [EMPTY_LIST], [ints(1), NULL, EMPTY_OBJECT, ("text", ""), ("list", (EMPTY_LIST,))])

    def test_tuple_of_one(self):
        self.check(("tuple", (ANY,)), [("list", (value,)) for value in ONE_OF_EACH], [EMPTY_LIST, ints(1, 2), NULL])
        self.check(("tuple", (NEVER,)), [], [EMPTY_LIST, ints(1), ints(1, 2)])


class Objects(Schemas):
    def test_other_kinds(self):
        for others in (ANY, NEVER):
            self.check(("object", (), others), [EMPTY_OBJECT], self.kinds_except("object"))

    def test_a_required_field(self):
        schema = ("object", (("a", ("int", 0, 9), True),), ANY)
        self.check(schema, [fields(a=("int", 0)), fields(a=("int", 9), b=NULL)], [EMPTY_OBJECT, fields(b=("int", 1))])
        self.check(schema, [], [fields(a=("int", 10)), fields(a=NULL), fields(A=("int", 1)), fields(aa=("int", 1))])

    def test_each_of_several_required_fields(self):
        schema = ("object", tuple((name, ANY, True) for name in "bca"), ANY)
        self.check(schema, [fields(a=NULL, b=NULL, c=NULL), fields(a=NULL, b=NULL, c=NULL, d=NULL)], [
            fields(a=NULL, b=NULL), fields(a=NULL, c=NULL), fields(b=NULL, c=NULL), fields(a=NULL, b=NULL, d=NULL),
        ])

    def test_a_field_that_is_not_required(self):
        schema = ("object", (("a", ("int", 0, 9), False),), ANY)
        valid = [EMPTY_OBJECT, fields(a=("int", 5)), fields(b=NULL), fields(a=("int", 0), b=NULL)]
        self.check(schema, valid, [fields(a=("int", -1)), fields(a=NULL), fields(a=NULL, b=("int", 5))])

    def test_a_listed_field_that_may_not_be_there(self):
        schema = ("object", (("a", NEVER, False),), ANY)
        self.check(schema, [EMPTY_OBJECT, fields(b=NULL)], [fields(a=NULL), fields(a=NULL, b=NULL)])
        self.check(("object", (("a", NEVER, True),), ANY), [], [EMPTY_OBJECT, fields(a=NULL), fields(b=NULL)])

    def test_fields_that_are_not_listed(self):
        rows = (("a", ANY, False), ("c", ANY, False))
        listed = [EMPTY_OBJECT, fields(a=NULL), fields(c=NULL), fields(a=NULL, c=NULL)]
        with_int = [fields(b=("int", 1)), fields(a=NULL, b=("int", 1)), fields(a=NULL, c=NULL, d=("int", 1))]
        with_text = [fields(b=("text", "")), fields(b=("int", 1), d=("text", "")), ("object", (("", ("text", "")),))]
        self.check(("object", rows, NEVER), listed, with_int + with_text)
        self.check(("object", rows, ANY), listed + with_int + with_text, [])
        self.check(("object", rows, ("int", None, None)), listed + with_int, with_text)

    def test_listed_fields_are_not_among_the_others(self):
        schema = ("object", (("a", ("text", 0, None), True),), ("int", None, None))
        self.check(schema, [fields(a=("text", "")), fields(a=("text", ""), b=("int", 1))], [
            fields(a=("int", 1)), fields(a=("text", ""), b=("text", "")), fields(a=("int", 1), b=("int", 1)),
        ])

    def test_rows_in_any_order_of_names(self):
        rows = [("b", ("int", 2, 2), True), ("a", ("int", 1, 1), True), ("d", ("int", 4, 4), False), ("", NULL, False)]
        good = [fields(a=("int", 1), b=("int", 2)), fields(a=("int", 1), b=("int", 2), d=("int", 4))]
        bad = [fields(a=("int", 2), b=("int", 1)), fields(a=("int", 1), b=("int", 2), d=("int", 2))]
        bad += [fields(b=("int", 2)), fields(a=("int", 1)), EMPTY_OBJECT]
        for turn in range(4):
            turned = tuple(rows[turn:] + rows[:turn])
            self.check(("object", turned, NEVER), good, bad)
            self.check(("object", turned[::-1], NEVER), good, bad)

    def test_no_rows(self):
        some = [fields(a=("int", 1)), fields(a=("int", 1), b=("int", 2))]
        self.check(("object", (), ("int", 1, 2)), [EMPTY_OBJECT] + some, [fields(a=("int", 1), b=("int", 3))])
        self.check(("object", (), NEVER), [EMPTY_OBJECT], some)

    def test_names_as_strings_only(self):
        schema = ("object", (("0", ANY, True), ("", ANY, True)), NEVER)
        self.check(schema, [("object", (("", NULL), ("0", NULL)))], [("object", (("0", NULL),)), ints(1)])


class Combined(Schemas):
    def test_either(self):
        self.check(("either", (("int", 0, 3), ("int", 7, 9), ("null",))), [("int", 3), ("int", 7), NULL], [
            ("int", 4), ("int", 6), ("int", -1), ("int", 10), NO, ("text", ""),
        ])
        self.check(("either", (("int", 0, 5), ("int", 3, 9))), [("int", 0), ("int", 4), ("int", 9)], [("int", 10)])

    def test_all(self):
        self.check(("all", (("int", 0, 5), ("int", 3, 9))), [("int", 3), ("int", 5)], [("int", 2), ("int", 6), NULL])
        self.check(("all", (("int", 0, 5), ("int", 6, 9))), [], [("int", 5), ("int", 6)])
        self.check(("all", (ANY, ("null",), ANY)), [NULL], self.kinds_except("null"))

    def test_empty_either_and_empty_all(self):
        self.check(("either", ()), [], ONE_OF_EACH)
        self.check(("all", ()), ONE_OF_EACH, [])

    def test_either_and_all_of_one(self):
        for word in ("either", "all"):
            self.check((word, (("text", 1, None),)), [("text", "a")], [("text", ""), NULL])
            self.check((word, (NEVER,)), [], ONE_OF_EACH)
            self.check((word, (ANY,)), ONE_OF_EACH, [])

    def test_not_of_each_word(self):
        self.check(("not", ANY), [], ONE_OF_EACH)
        self.check(("not", NEVER), ONE_OF_EACH, [])
        self.check(("not", ("null",)), self.kinds_except("null"), [NULL])
        self.check(("not", ("bool",)), self.kinds_except("bool"), [YES, NO])
        others = self.kinds_except("int")
        self.check(("not", ("int", 0, 5)), [("int", 6), ("int", -1)] + others, [("int", 0), ("int", 5)])
        self.check(("not", ("int", 5, 0)), ONE_OF_EACH, [])
        self.check(("not", ("text", 1, None)), self.kinds_except("text") + [("text", "")], [("text", "a")])
        self.check(("not", ("const", YES)), [NO, ("int", 1), NULL], [YES])
        self.check(("not", ("list", NULL, 1, None)), [EMPTY_LIST, ints(1), NULL], [("list", (NULL, NULL))])
        self.check(("not", ("tuple", (NULL,))), [EMPTY_LIST, ints(1), ("list", (NULL, NULL))], [("list", (NULL,))])
        self.check(("not", ("object", (("a", NULL, True),), ANY)), [EMPTY_OBJECT, NULL, fields(a=NO)], [fields(a=NULL)])
        self.check(("not", ("either", (NULL, ("bool",)))), [("int", 0), EMPTY_LIST], [NULL, YES])
        self.check(("not", ("either", ())), ONE_OF_EACH, [])
        self.check(("not", ("all", (ANY, NULL))), [YES, EMPTY_LIST], [NULL])
        self.check(("not", ("all", ())), [], ONE_OF_EACH)

    def test_not_within_not(self):
        schema = ("int", 0, 5)
        for _ in range(3):
            schema = ("not", ("not", schema))
            self.check(schema, [("int", 0), ("int", 5)], [("int", 6), NULL])

    def test_not_within_other_schemas(self):
        self.check(("list", ("not", NULL), 0, None), [EMPTY_LIST, ints(1, 2)], [("list", (("int", 1), NULL))])
        with_null = [fields(a=NULL), fields(a=YES, b=NULL)]
        self.check(("object", (), ("not", NULL)), [EMPTY_OBJECT, fields(a=YES)], with_null)

    def test_nested_6_deep_and_deeper(self):
        schema, good, bad = ("int", 1, 1), ("int", 1), ("int", 2)
        for _ in range(15):
            schema = ("object", (("a", ("list", schema, 0, 3), True),), NEVER)
            good, bad = fields(a=("list", (good,))), fields(a=("list", (bad,)))
            self.check(schema, [good], [bad, EMPTY_OBJECT])


class AllSchemas(unittest.TestCase):
    def test_against_the_model(self):
        rng = random.Random(11)
        answers = {True: 0, False: 0}
        words = {}
        for _ in range(6000):
            schema = made_schema(rng, rng.randrange(1, 5))
            for value in (made_value(rng, 4), fitting_value(rng, schema, 6)):
                answer = is_valid(schema, value)
                self.assertIs(answer, model(schema, to_plain(value)), (schema, value))
                answers[answer] += 1
                words.setdefault(schema[0], set()).add(answer)
        self.assertGreater(min(answers.values()), 2000)
        self.assertEqual(len(words), 13)
        self.assertEqual(sorted(word for word in words if len(words[word]) < 2), ["any", "never"])

    def test_arguments_are_as_before_and_equal_inputs_give_equal_answers(self):
        rng = random.Random(12)
        for _ in range(500):
            schema = made_schema(rng, 4)
            value = fitting_value(rng, schema, 6)
            before = repr((schema, value))
            self.assertIs(is_valid(schema, value), is_valid(remade(schema), remade(value)))
            self.assertEqual(repr((schema, value)), before)


if __name__ == "__main__":
    unittest.main()
