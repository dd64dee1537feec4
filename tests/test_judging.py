"""Judging patches and schemas for all values at once (points 19 and 20)."""

import random
import time
import unittest

from patchkept import judging
from patchkept.formulas import holds
from patchkept.judging import always_applies, common, guard, judge, within
from patchkept.patches import apply
from patchkept.schemas import is_valid
from patchkept.values import depth_of
from tests.helpers import (
    NULL, check_interface, consists_of_tuples, fields, fitting_value, has_held, ints, made_long_patch, made_patch,
    made_schema, made_value, nesting_of, remade, variants,
)

ANY, NEVER = ("any",), ("never",)
NINE = ("int", 0, 9)
BIG = 10 ** 40


def judged(case, schema, patch, after):
    """What judge returns; a value that it shows is what it must be."""
    answer = judge(schema, patch, after)
    if answer != ("kept",):
        word, value = answer
        case.assertEqual(word, "breaks")
        case.assertTrue(is_valid(schema, value))
        result = apply(patch, value)
        case.assertIsNotNone(result)
        case.assertFalse(is_valid(after, result))
        case.assertLessEqual(depth_of(value), 100)
    return answer[0]


def applied(case, schema, patch):
    answer = always_applies(schema, patch)
    if answer != ("applies",):
        word, value = answer
        case.assertEqual(word, "fails")
        case.assertTrue(is_valid(schema, value))
        case.assertIsNone(apply(patch, value))
        case.assertLessEqual(depth_of(value), 100)
    return answer[0]


def compared(case, schema, other):
    answer = within(schema, other)
    if answer != ("within",):
        word, value = answer
        case.assertEqual(word, "outside")
        case.assertTrue(is_valid(schema, value))
        case.assertFalse(is_valid(other, value))
    return answer[0]


def shared(case, schema, other):
    value = common(schema, other)
    if value is not None:
        case.assertTrue(is_valid(schema, value))
        case.assertTrue(is_valid(other, value))
    return value is not None


def optional(names, bound=9, inner=None):
    """An object with these fields, none of them required; the last one has a bound of its own."""
    rows = [(name, inner or NINE, False) for name in names[:-1]] + [(names[-1], ("int", 0, bound), False)]
    return ("object", tuple(rows), NEVER)


def increases(*paths):
    return tuple(("increase", path, 1) for path in paths)


class Interface(unittest.TestCase):
    def test_names_and_arguments(self):
        check_interface(self, judging, {
            "judge": ["schema", "patch", "after"], "always_applies": ["schema", "patch"], "within": ["schema", "other"],
            "common": ["schema", "other"], "guard": ["patch", "schema"],
        })


class Judge(unittest.TestCase):
    def check(self, schema, patch, after, word):
        self.assertEqual(judged(self, schema, patch, after), word, (schema, patch, after))

    def test_examples_of_the_document(self):
        schema = ("object", (("a", NINE, True),), NINE)
        self.assertEqual(judge(schema, (("copy", ("b",), ("a",)),), schema), ("kept",))
        self.assertEqual(judge(NINE, increases(()), NINE), ("breaks", ("int", 9)))
        case = ("when", (), ("int", 0, 8), increases(()), ())
        self.assertEqual(judge(NINE, (case,), NINE), ("kept",))

    def test_ints(self):
        self.check(NINE, (), NINE, "kept")
        self.check(NINE, (), ("int", 0, 8), "breaks")
        self.check(NINE, increases(()), ("int", 1, 10), "kept")
        self.check(NINE, increases(()), ("int", 2, 10), "breaks")
        self.check(NINE, increases(*[()] * 8), ("int", 8, 17), "kept")
        self.check(NINE, increases(*[()] * 8), ("int", 8, 16), "breaks")
        self.check(("int", BIG, BIG + 10 ** 10), (("increase", (), -BIG),), ("int", 0, 10 ** 10), "kept")
        self.check(("int", BIG, BIG + 10 ** 10), (("increase", (), -BIG),), ("int", 0, 10 ** 10 - 1), "breaks")
        self.check(("int", None, None), increases(()), ("int", None, None), "kept")
        self.check(("int", None, 3), increases(()), ("int", None, 3), "breaks")
        self.check(NEVER, increases(()), NEVER, "kept")

    def test_a_patch_that_fails_keeps_everything(self):
        for patch in ((("remove", ()),), (("test", (), NULL), ("remove", ()))):
            self.check(ANY, patch, NEVER, "kept")
        self.check(ANY, (), NEVER, "breaks")
        self.check(ANY, (("remove", ("a",)),), ("object", (), ANY), "kept")
        self.check(ANY, (("remove", ("a",)),), ("object", (("a", NEVER, False),), ANY), "kept")
        self.check(ANY, (("remove", (0,)),), ("list", ANY, 1, None), "breaks")
        self.check(("text", 0, 3), increases(()), NEVER, "kept")

    def test_lists(self):
        lists = ("list", NINE, 0, 29)
        more = ("list", NINE, 1, 30)
        self.check(lists, (("add", (-1,), ("int", 3)),), more, "kept")
        self.check(lists, (("add", (-1,), ("int", 10)),), more, "breaks")
        self.check(lists, (("add", (-1,), ("int", 3)),), ("list", NINE, 2, 30), "breaks")
        self.check(("list", NINE, 0, 30), (("add", (-1,), ("int", 3)),), more, "breaks")
        self.check(("list", NINE, 0, 22), (("add", (0,), ("int", 3)),) * 8, ("list", NINE, 8, 30), "kept")
        self.check(("list", NINE, 0, 22), (("add", (0,), ("int", 3)),) * 8, ("list", NINE, 8, 29), "breaks")
        self.check(("list", NINE, 30, 30), (("remove", (9,)),), ("list", NINE, 29, 29), "kept")
        self.check(("list", NINE, 0, None), (("each", (), increases(())),), ("list", ("int", 1, 10), 0, None), "kept")
        self.check(("list", NINE, 0, None), (("each", (), increases(())),), ("list", ("int", 1, 9), 0, None), "breaks")
        pairs = ("tuple", (NINE, ("text", 0, None)))
        self.check(pairs, (("move", (0,), (1,)),), ("tuple", (("text", 0, None), NINE)), "kept")
        self.check(pairs, (("move", (0,), (-1,)),), pairs, "breaks")
        self.check(pairs, (("move", (0,), (-1,)), ("move", (0,), (1,))), pairs, "kept")

    def test_objects(self):
        schema = ("object", (("a", NINE, True), ("b", ("text", 1, 3), False)), NULL)
        self.check(schema, (("remove", ("a",)),), schema, "breaks")
        self.check(schema, (("remove", ("b",)),), schema, "kept")
        self.check(schema, (("add", ("c",), NULL),), schema, "kept")
        self.check(schema, (("add", ("c",), ("int", 0)),), schema, "breaks")
        self.check(schema, (("copy", ("a",), ("b",)),), schema, "breaks")
        self.check(schema, (("move", ("b",), ("a",)),), schema, "breaks")
        self.check(schema, (("replace", ("zz",), NULL), ("copy", ("zz",), ("y",))), schema, "kept")
        moved = ("object", (("a", NINE, False), ("c", NINE, True)), ("either", (NULL, ("text", 1, 3))))
        self.check(schema, (("move", ("a",), ("c",)),), moved, "kept")
        every = ("object", (), NINE)
        self.check(every, (("each", (), increases(())),), ("object", (), ("int", 1, 10)), "kept")
        self.check(every, (("each", (), increases(())),), every, "breaks")

    def test_whens(self):
        small = ("int", 0, 8)
        guarded = tuple(("when", (name,), small, increases((name,)), ()) for name in "abc")
        self.check(optional("abcde"), guarded, optional("abcde"), "kept")
        self.check(optional("abcde"), guarded + increases(("d",)), optional("abcde"), "breaks")
        wrong = ("when", ("a",), small, (), increases(("a",)))
        self.check(optional("abcde"), (wrong,), optional("abcde"), "breaks")
        nested = ("each", (), (("when", (), small, increases(()), (("replace", (), ("int", 0)),)),))
        self.check(("list", NINE, 0, None), (nested,), ("list", NINE, 0, None), "kept")
        chain = ("when", (), ("int", 0, 3), (("replace", (), NULL),), (("when", (), ("int", 7, 9), (("replace", (), NULL),), ()),))
        self.check(NINE, (chain,), ("either", (NULL, ("int", 4, 6))), "kept")
        self.check(NINE, (chain,), ("either", (NULL, ("int", 5, 6))), "breaks")

    def test_values_that_are_shown_may_be_deep(self):
        deep = NULL
        for _ in range(18):
            deep = ("list", (deep,))
        after = ("const", deep)
        for _ in range(4):
            after = ("object", (("k", after, True),), NEVER)
        copies = (("copy", tuple("abcdef"), ()),) * 8
        answer = judge(ANY, copies, ("not", after))
        self.assertTrue(is_valid(after, apply(copies, answer[1])))
        self.assertLessEqual(depth_of(answer[1]), 100)
        self.assertEqual(judge(ANY, copies, ANY), ("kept",))

    def test_made_up_ones(self):
        rng = random.Random(191)
        words = []
        for turn in range(500):
            schema = made_schema(rng, rng.choice((2, 3, 4)))
            after = schema if turn % 2 else made_schema(rng, rng.choice((2, 3, 4)))
            valid = [value for value in (fitting_value(rng, schema, 4) for _ in range(15)) if is_valid(schema, value)]
            patch = (made_patch(rng, 3, valid[0]) if turn % 3 else made_long_patch(rng, valid[0])) if valid else ()
            words.append(judged(self, schema, patch, after))
            words.append(applied(self, schema, patch))
            for value in valid + [other for value in valid[:1] for other in variants(value)[:20]]:
                if is_valid(schema, value):
                    result = apply(patch, value)
                    self.assertTrue(words[-1] == "fails" or result is not None, (schema, patch))
                    self.assertTrue(words[-2] == "breaks" or result is None or is_valid(after, result), (schema, patch, after))
        for word in ("kept", "breaks", "applies", "fails"):
            self.assertGreater(words.count(word), 30, word)

    def test_the_search_ends_soon(self):
        rng = random.Random(192)
        started = time.process_time()
        for _ in range(100):
            schema, after = made_schema(rng, 4), made_schema(rng, 4)
            patch = made_long_patch(rng, fitting_value(rng, schema, 4))
            judge(schema, patch, after)
            within(("all", (schema, after)), ("either", (after, ("not", schema))))
        inner = optional("abcde", 9, optional("fghij", 9, optional("klmno")))
        judge(inner, increases(("a", "f", "k")), inner)
        within(inner, inner)
        # Many times as many as twelve questions take far less than some seconds.
        self.assertLess(time.process_time() - started, 30)


class AlwaysApplies(unittest.TestCase):
    def check(self, schema, patch, word):
        self.assertEqual(applied(self, schema, patch), word, (schema, patch))

    def test_each_step(self):
        schema = ("object", (("a", NINE, True), ("b", ("list", NINE, 1, 3), False)), ANY)
        self.check(schema, (), "applies")
        self.check(schema, (("remove", ("a",)),), "applies")
        self.check(schema, (("remove", ("b",)),), "fails")
        self.check(schema, increases(("a",)), "applies")
        self.check(schema, increases(("b",)), "fails")
        self.check(schema, (("add", ("zz",), NULL),), "applies")
        self.check(schema, (("add", ("zz", "a"), NULL),), "fails")
        self.check(schema, (("add", ("b",), ints()), ("add", ("b", -1), NULL), ("remove", ("b", 0))), "applies")
        self.check(schema, (("test", ("a",), ("int", 3)),), "fails")
        self.check(("const", ints(3)), (("test", (0,), ("int", 3)),), "applies")
        self.check(schema, (("each", (), ()),), "applies")
        self.check(schema, (("each", (), increases(())),), "fails")
        self.check(schema, (("when", ("b",), ANY, (("remove", ("b", 0)),), (("remove", ("a",)),)),), "applies")
        self.check(schema, (("when", ("b",), ANY, (("remove", ("b", 1)),), (("remove", ("a",)),)),), "fails")
        self.check(("list", NINE, 5, 5), (("remove", (4,)), ("add", (4,), NULL), ("move", (4,), (0,))), "applies")
        self.check(("list", NINE, 5, 5), (("remove", (4,)), ("add", (5,), NULL)), "fails")
        self.check(("list", NINE, 0, None), (("each", (), increases(())),), "applies")
        self.check(NEVER, (("remove", ()),), "applies")
        self.check(ANY, (("remove", ()),), "fails")


class Within(unittest.TestCase):
    def check(self, schema, other, word):
        self.assertEqual(compared(self, schema, other), word, (schema, other))

    def test_bounds(self):
        self.check(NINE, ("int", 0, None), "within")
        self.check(NINE, ("int", 0, 8), "outside")
        self.check(("int", BIG, BIG + 10 ** 10), ("int", BIG, BIG + 10 ** 10), "within")
        self.check(("int", BIG, BIG + 10 ** 10), ("int", BIG + 1, BIG + 10 ** 10), "outside")
        self.check(("int", BIG, BIG + 10 ** 10), ("not", ("const", ("int", BIG + 10 ** 10))), "outside")
        self.check(("text", 2, 30), ("text", 1, None), "within")
        self.check(("text", 2, None), ("text", 0, 30), "outside")
        self.check(("text", 0, 0), ("const", ("text", "")), "within")
        self.check(("text", 0, 1), ("const", ("text", "")), "outside")
        self.check(("list", NINE, 30, None), ("list", NINE, 29, None), "within")
        self.check(("list", NINE, 29, 30), ("list", NINE, 30, 30), "outside")
        self.check(("list", NINE, 30, 30), ("tuple", (NINE,) * 25), "outside")
        self.check(("list", NINE, 25, 25), ("tuple", (NINE,) * 25), "within")
        self.check(("list", NINE, 3, 2), NEVER, "within")
        self.check(("list", NEVER, 0, None), ("const", ints()), "within")
        self.check(("list", NEVER, 1, None), NEVER, "within")

    def test_objects_with_optional_fields(self):
        self.check(optional("abcde"), optional("abcde"), "within")
        self.check(optional("abcde", 9), optional("abcde", 10), "within")
        self.check(optional("abcde", 10), optional("abcde", 9), "outside")
        self.check(optional("abcde"), optional("edcba"), "within")
        deep = optional("abcde", 9, optional("fghij"))
        self.check(deep, deep, "within")
        self.check(deep, optional("abcde", 9, optional("fghij", 10)), "within")
        self.check(deep, optional("abcde", 9, optional("fghij", 8)), "outside")
        self.check(optional("abcde"), ("object", (), NINE), "within")
        self.check(("object", (), NINE), optional("abcde"), "outside")
        self.check(("object", (("a", NEVER, True),), ANY), NEVER, "within")

    def test_choices(self):
        halves = ("either", (("int", None, 4), ("int", 5, None)))
        self.check(("int", None, None), halves, "within")
        self.check(("list", ("int", None, None), 0, None), ("list", halves, 0, None), "within")
        lists = ("either", (("list", ("int", None, 4), 0, None), ("list", ("int", 5, None), 0, None)))
        self.check(("list", ("int", None, None), 1, 1), lists, "within")
        self.check(("list", ("int", None, None), 0, None), lists, "outside")
        self.check(ANY, ("either", (NULL, ("bool",), ("int", None, None), ("text", 0, None), ("list", ANY, 0, None),
                                    ("object", (), ANY))), "within")
        self.check(("bool",), ("either", (("const", ("bool", True)), ("const", ("bool", False)))), "within")
        self.check(ANY, ("all", ()), "within")
        self.check(ANY, ("either", ()), "outside")

    def test_what_holds_for_every_schema(self):
        rng = random.Random(193)
        for _ in range(250):
            schema, other = made_schema(rng, rng.choice((2, 3, 4))), made_schema(rng, 3)
            self.check(schema, schema, "within")
            self.check(schema, ("either", (other, schema)), "within")
            self.check(schema, ("not", ("not", schema)), "within")
            self.check(("not", ("not", schema)), schema, "within")
            self.check(("all", (schema, other)), schema, "within")
            self.check(NEVER, schema, "within")
            self.check(schema, ANY, "within")
            word = compared(self, schema, other)
            self.assertEqual(word == "within", not shared(self, schema, ("not", other)))
            for value in [fitting_value(rng, schema, 4) for _ in range(8)]:
                if is_valid(schema, value):
                    self.assertTrue(word == "outside" or is_valid(other, value), (schema, other))


class Common(unittest.TestCase):
    def check(self, schema, other, is_shared):
        self.assertEqual(shared(self, schema, other), is_shared, (schema, other))

    def test_schemas(self):
        self.check(NINE, ("int", 9, 20), True)
        self.check(NINE, ("int", 10, 20), False)
        self.check(("int", BIG, BIG + 10 ** 10), ("int", BIG + 10 ** 10, None), True)
        self.check(("int", BIG, BIG + 10 ** 10), ("int", BIG + 10 ** 10 + 1, None), False)
        self.check(("text", 0, 30), ("text", 30, None), True)
        self.check(("text", 0, 29), ("text", 30, None), False)
        self.check(("list", NINE, 30, None), ("list", ("int", 9, 10), 0, 30), True)
        self.check(("list", NINE, 30, None), ("list", ("int", 10, 10), 0, 30), False)
        self.check(("list", NINE, 0, None), ("list", ("int", 10, 10), 0, 30), True)
        self.check(("list", NINE, 0, 29), ("list", NINE, 30, None), False)
        self.check(("object", (("a", NINE, True),), NEVER), ("object", (("a", NINE, False), ("b", NINE, True)), ANY), False)
        self.check(("object", (("a", NINE, True),), NULL), ("object", (("b", NINE, False),), ANY), True)
        self.check(("const", fields(a=NULL)), ("object", (), NULL), True)
        self.check(("const", fields(a=NULL)), ("object", (), NINE), False)
        self.check(("tuple", (ANY, NINE)), ("tuple", (NULL, ANY)), True)
        self.check(("tuple", (ANY, NINE)), ("tuple", (NULL,)), False)

    def test_what_holds_for_every_schema(self):
        rng = random.Random(194)
        for _ in range(250):
            schema, other = made_schema(rng, rng.choice((2, 3, 4))), made_schema(rng, 3)
            self.check(schema, ("not", schema), False)
            self.check(schema, NEVER, False)
            self.assertEqual(shared(self, schema, ANY), shared(self, schema, schema))
            is_shared = shared(self, schema, other)
            self.assertEqual(shared(self, other, schema), is_shared)
            for value in [fitting_value(rng, schema, 4) for _ in range(8)]:
                self.assertTrue(is_shared or not (is_valid(schema, value) and is_valid(other, value)))


class Guard(unittest.TestCase):
    def check(self, patch, schema, values):
        formula = guard(patch, schema)
        self.assertFalse(has_held(formula))
        self.assertLessEqual(nesting_of(formula), 300)
        for value in values:
            result = apply(patch, value)
            self.assertIs(holds(formula, value), result is None or is_valid(schema, result), (patch, schema, value))

    def test_ints(self):
        values = [("int", number) for number in range(-3, 15)] + [NULL, ("text", ""), ints(1)]
        self.check(increases(()), NINE, values)
        self.check(increases((), ()), ("not", NINE), values)
        self.check((), NINE, values)
        self.check((("remove", ()),), NEVER, values)

    def test_made_up_ones(self):
        rng = random.Random(195)
        for turn in range(400):
            schema = made_schema(rng, rng.choice((2, 3, 4)))
            value = fitting_value(rng, schema, 4)
            patch = made_patch(rng, 3, value) if turn % 3 else made_long_patch(rng, value)
            self.check(patch, schema, [value, made_value(rng, 4)] + variants(value)[:25])

    def test_deep_schemas(self):
        deep = NULL
        for _ in range(18):
            deep = ("list", (deep,))
        schema = ("const", deep)
        for _ in range(5):
            schema = ("list", schema, 0, 2)
        patch = (("add", ("a", 0, "b", 1, "c", -1), deep), ("move", ("a", 0, "b", 1, "c", 2), (2, "b", 1, "a", 0, "c"))) * 4
        self.check(patch, schema, [NULL, deep])
        case = ("when", ("a", 0, "b", 1, "c", 2), schema, (("add", (-1,), deep),), (("remove", (0,)),))
        self.check((case, case, case), schema, [NULL, deep])


class Plainly(unittest.TestCase):
    def test_arguments_are_not_changed_and_answers_do_not_differ(self):
        rng = random.Random(196)
        for _ in range(60):
            schema, other = made_schema(rng, 3), made_schema(rng, 3)
            patch = made_patch(rng, 2, fitting_value(rng, schema, 3))
            given = (schema, patch, other)
            kept = remade(given)
            for inputs in (given, remade(given)):
                one, steps, two = inputs
                answers = (judge(one, steps, two), always_applies(one, steps), within(one, two), common(one, two), guard(steps, one))
                self.assertEqual(inputs, kept)
                self.assertTrue(consists_of_tuples(answers))
                first = answers if inputs is given else first
            self.assertEqual(answers, first)


if __name__ == "__main__":
    unittest.main()
