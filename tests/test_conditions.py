"""The conditions of primitives and patches before formulas (points 16 and 17)."""

import random
import unittest

from patchkept import conditions
from patchkept.conditions import before, before_primitive, success_of
from patchkept.formulas import holds, holds_with
from patchkept.patches import apply, primitives_of, run_primitive
from tests.helpers import (
    KINDS, NULL, check_interface, consists_of_tuples, fields, has_held, ints, made_document, made_formula,
    made_long_patch, made_patch, made_step, made_value, nesting_of, remade, steps_in, texts, variants,
)

TRUE = ("true",)
INT, TEXT, LIST, OBJECT = ("kind", "int"), ("kind", "text"), ("kind", "list"), ("kind", "object")
ANY, NEVER = ("any",), ("never",)
FIGURES = 12345678901234567890
VALUE = fields(a=ints(1, 2, 3), b=fields(c=("text", "x"), d=("int", 5)), e=("list", (ints(4), texts("y"))), f=NULL)
ONE_OF_EACH = [NULL, ("bool", True), ("int", 0), ("text", "a"), ("list", ()), ("object", ()), ints(1), fields(a=NULL)]
ADD_ONE = (("increase", (), 1),)
# Long enough for whatever the formulas of these tests name.
LISTS = [ints(*range(count)) for count in range(16)]
WORDS = ("not", "and", "or", "at", "each_item", "each_field")
WITH_HELD = WORDS + ("held",)

PRIMITIVES = [
    ("load", NULL), ("load", VALUE),
    ("look", ()), ("look", ("a", 1)), ("look", ("a", 3)), ("look", ("b", "c")), ("look", ("b", 0)), ("look", ("f", "a")),
    ("take", ()), ("take", ("a",)), ("take", ("a", 0)), ("take", ("a", 2)), ("take", ("a", 3)), ("take", ("b", "x")),
    ("take", ("e", 1, 0)), ("take", ("a", "b")), ("take", ("x",)),
    ("put", ()), ("put", ("a",)), ("put", ("x",)), ("put", ("a", -1)), ("put", ("a", 0)), ("put", ("a", 1)),
    ("put", ("a", 3)), ("put", ("a", 4)), ("put", ("b", -1)), ("put", ("b", "c")), ("put", ("b", "y")),
    ("put", ("a", "b")), ("put", ("b", 0)), ("put", ("e", 1, -1)), ("put", ("e", 2, -1)), ("put", ("f", 0)), ("put", (-1,)),
    ("swap", ()), ("swap", ("a",)), ("swap", ("x",)), ("swap", ("a", 2)), ("swap", ("a", 3)), ("swap", ("b", "d")),
    ("check", (), VALUE), ("check", (), NULL), ("check", ("a",), ints(1, 2, 3)), ("check", ("a", 0), ("int", 2)),
    ("check", ("b", "c"), ("text", "x")), ("check", ("x",), NULL), ("check", ("e", 0, 0), ("int", 4)),
    ("increase", (), 1), ("increase", ("a", 1), 0), ("increase", ("a", 1), -7), ("increase", ("b", "d"), FIGURES),
    ("increase", ("b", "c"), 1), ("increase", ("x",), 1), ("increase", ("a", 5), 1),
    ("each", ("a",), ADD_ONE), ("each", ("b",), ADD_ONE), ("each", ("e",), (("remove", (0,)),)), ("each", (), ()),
    ("each", ("f",), ()), ("each", ("x",), ()), ("each", ("a",), (("remove", ()),)), ("each", ("e", 0), (("remove", ()),)),
    ("each", ("e",), (("each", (), ADD_ONE),)), ("each", ("e",), (("add", (-1,), NULL), ("move", (0,), (1,)))),
    ("when", ("a",), ("list", ("int", None, None), 0, 3), (("remove", ("a",)),), (("remove", ("b",)),)),
    ("when", ("a",), ("list", ANY, 0, 2), (("remove", ("a",)),), (("remove", ("x",)),)),
    ("when", ("x",), ANY, (("remove", ("a",)),), ()), ("when", ("x",), ANY, (), (("remove", ("x",)),)),
    ("when", (), ANY, (("test", ("f",), NULL),), ()), ("when", ("a", 0), ("int", 1, 1), ADD_ONE, ()),
]


def without_repeats(values):
    return [value for at, value in enumerate(values) if value not in values[:at]]


class Conditions(unittest.TestCase):
    def check_success(self, primitive, values):
        formula = success_of(primitive)
        self.assertFalse(has_held(formula), primitive)
        for value in values:
            with self.subTest(primitive=primitive, value=value):
                self.assertIs(holds(formula, value), run_primitive(primitive, value, NULL) is not None)

    def check_before(self, primitive, formula, values, helds=(NULL,)):
        condition = before_primitive(primitive, formula)
        self.assertLessEqual(nesting_of(condition), nesting_of(formula) + 70 + 10 * steps_in((primitive,)))
        if primitive[0] in ("load", "look", "take") or not (has_held(formula) or primitive[0] in ("put", "swap")):
            self.assertFalse(has_held(condition), (primitive, formula))
        reached = 0
        for value in values:
            for held in helds:
                pair = run_primitive(primitive, value, held)
                expected = pair is not None and holds_with(formula, pair[0], pair[1])
                reached += expected
                if holds_with(condition, value, held) is not expected:
                    self.fail(f"{primitive} before {formula} at {value} with {held}: not {expected}")
        return reached

    def check_patch(self, patch, formula, values):
        condition = before(patch, formula)
        self.assertFalse(has_held(condition))
        self.assertLessEqual(nesting_of(condition), nesting_of(formula) + 70 + 10 * steps_in(patch))
        reached = 0
        for value in values:
            result = apply(patch, value)
            expected = result is not None and holds(formula, result)
            reached += expected
            if holds(condition, value) is not expected:
                self.fail(f"{patch} before {formula} at {value}: not {expected}")
        return reached


class Interface(unittest.TestCase):
    def test_names_and_arguments(self):
        check_interface(self, conditions, {
            "success_of": ["primitive"], "before_primitive": ["primitive", "formula"], "before": ["patch", "formula"],
        })


class Success(Conditions):
    def test_at_the_value_and_near_it_and_at_every_kind(self):
        values = [VALUE] + ONE_OF_EACH + variants(VALUE)
        for primitive in PRIMITIVES:
            self.check_success(primitive, values)

    def test_both_answers_occur_for_each_word_that_can_fail(self):
        for word in ("look", "take", "put", "swap", "check", "increase", "each", "when"):
            formulas = [success_of(primitive) for primitive in PRIMITIVES if primitive[0] == word]
            self.assertEqual({holds(formula, VALUE) for formula in formulas}, {True, False}, word)
        self.assertTrue(holds(success_of(("load", NULL)), VALUE))

    def test_take_with_the_empty_path_never_succeeds(self):
        self.check_success(("take", ()), LISTS + ONE_OF_EACH)

    def test_put_at_every_index(self):
        for index in range(-1, 10):
            self.check_success(("put", (index,)), LISTS + ONE_OF_EACH)

    def test_each_over_nothing_and_over_leaves(self):
        failing = (("remove", ()),)
        for path in ((), ("a",), (0,)):
            for patch in (failing, (), ADD_ONE, (("each", (), failing),), (("when", (), NEVER, (), failing),)):
                values = ONE_OF_EACH + [("list", (part,)) for part in ONE_OF_EACH]
                values += [fields(a=part) for part in ONE_OF_EACH] + [ints(1, 2), texts("a")]
                self.check_success(("each", path, patch), values)

    def test_nesting_is_that_of_the_condition_before_true(self):
        for primitive in PRIMITIVES:
            self.assertLessEqual(nesting_of(success_of(primitive)), 1 + 70 + 10 * steps_in((primitive,)))

    def test_made_up_primitives(self):
        rng = random.Random(161)
        for _ in range(400):
            value = made_value(rng, 4, KINDS[4:])
            for primitive in primitives_of(made_step(rng, 3, value)):
                self.check_success(primitive, [value] + variants(value)[:12] + ONE_OF_EACH)


def formulas_around(target):
    """Formulas about the place of a target, what is above it, beside it and within it."""
    parts = [INT, ("int_from", 3), ("text_is", "x"), ("items_from", 1), ("bool_is", True), ("not", INT), ("or", (INT, TEXT))]
    paths = [target[:length] for length in range(len(target) + 1)]
    paths += [target + (0,), target + ("c",), target[:-1] + (0,), target[:-1] + (1,), target[:-1] + (2,)]
    paths += [target[:-1] + (3,), target[:-1] + ("c",), target[:-1] + ("zz",), ("a", 1), ("b", "d")]
    paths = [path for path in without_repeats(paths) if -1 not in path]
    found = [("at", path, part) for path in paths for part in parts + [TRUE]]
    for path in paths:
        for index in range(5):
            found.append(("at", path, ("each_item", index, INT)))
            found.append(("at", path, ("items_from", index)))
        for names in ((), ("a",), ("a", "b", "e"), ("c",), ("x", "c", "c")):
            found.append(("at", path, ("each_field", names, ("not", ("int_from", 5)))))
            found.append(("at", path, ("not", ("each_field", names, ("kind", "list")))))
    for inner in (("each_field", ("d",), ("int_from", 4)), ("each_item", 0, ("each_item", 0, INT)), ("items_from", 2)):
        inner = ("or", (inner, ("kind", "null")))
        found += [("at", path, part) for path in paths[:2] for part in (("each_field", ("a", "e"), inner), ("each_item", 0, inner))]
        found += [("each_field", ("f",), ("or", (("kind", "object"), ("each_item", 0, ("or", (inner, INT))))))]
    found += [("not", part) for part in found[::5]]
    found += [("and", (one, ("not", other))) for one, other in zip(found[::7], found[3::7])]
    found += [("at", (), ("or", (one, ("at", (), other)))) for one, other in zip(found[::9], found[5::9])]
    return found + [("and", ()), ("or", ()), TRUE, ("not", ("and", ())), ("each_field", (), LIST)]


class BeforePrimitives(Conditions):
    VALUES = [VALUE, fields(a=ints(), b=fields(), e=("list", ()), f=NULL), fields(a=ints(3), b=ints(1), e=ints(1, 2))]
    HELDS = [("int", 4), ints(1, 2), fields(c=NULL)]

    def test_formulas_around_the_target(self):
        for primitive in PRIMITIVES:
            target = primitive[1] if primitive[0] != "load" else ("a",)
            for formula in formulas_around(target):
                self.check_before(primitive, formula, self.VALUES, self.HELDS)

    def test_held_parts(self):
        held = [("held", part) for part in (INT, ("int_from", 4), LIST, ("at", (0,), INT), ("each_item", 1, INT), TRUE)]
        plain = [("at", ("a",), ("items_from", 3)), ("each_field", ("a", "b"), LIST), ("at", ("b", "d"), ("int_from", 5))]
        formulas = held + [("not", part) for part in held]
        formulas += [(word, (one, ("not", other))) for word in ("and", "or") for one in held for other in plain]
        formulas += [("at", (), plain[0]), ("or", (("and", (held[0], plain[1])), ("not", ("or", (held[2], plain[2])))))]
        for primitive in PRIMITIVES:
            if primitive[0] not in ("each", "when"):
                for formula in formulas:
                    self.check_before(primitive, formula, self.VALUES + [ints(4, 5)], self.HELDS)

    def test_items_near_the_target(self):
        rest = [INT, ("int_from", 4), ("not", ("int_from", 9)), TRUE, ("false",)]
        values = LISTS + ONE_OF_EACH + [("list", (NULL,) * 4 + (("int", 7),) * 4)]
        helds = [("int", 0), ("int", 9), NULL]
        for word in ("put", "take", "swap", "increase", "look"):
            for target in (0, 1, 4, 9) + ((-1,) if word == "put" else ()):
                primitive = (word, (target,), 2) if word == "increase" else (word, (target,))
                for index in sorted({0, max(target - 1, 0), max(target, 0), target + 1, 3, 12}):
                    for inner in rest:
                        self.check_before(primitive, ("each_item", index, inner), values, helds)
                        self.check_before(primitive, ("not", ("each_item", index, inner)), values, helds)
                        self.check_before(primitive, ("at", (index,), inner), values, helds)
                for count in range(13):
                    self.check_before(primitive, ("items_from", count), values, helds)
                    exactly = ("and", (("items_from", count), ("not", ("items_from", count + 1))))
                    self.check_before(primitive, exactly, values, helds)

    def test_fields_near_the_target(self):
        values = [fields(a=("int", 1), b=NULL), fields(a=NULL), fields(b=NULL), fields(), fields(a=("int", 1), c=("int", 2))]
        for word in ("put", "take", "swap", "check", "increase", "look"):
            for name in ("a", "b", "c"):
                primitive = {"check": (word, (name,), NULL), "increase": (word, (name,), 3)}.get(word, (word, (name,)))
                for names in ((), ("a",), ("b", "c"), ("c", "a", "a"), ("zz",)):
                    for inner in (INT, ("kind", "null"), ("int_from", 4), TRUE, ("false",)):
                        formula = ("each_field", names, inner)
                        self.check_before(primitive, formula, values + ONE_OF_EACH, [("int", 4), NULL])
                        self.check_before(primitive, ("not", formula), values + ONE_OF_EACH, [("int", 4), NULL])

    def test_increases(self):
        for amount in (0, 1, -5, FIGURES, -FIGURES):
            for bound in (0, 3, FIGURES, -FIGURES, FIGURES + 1):
                values = [("int", bound - amount + more) for more in (-1, 0, 1)] + ONE_OF_EACH
                self.check_before(("increase", (), amount), ("int_from", bound), values)
                self.check_before(("increase", (), amount), ("not", ("int_from", bound)), values)
                lists = [("list", (value, NULL)) for value in values]
                self.check_before(("increase", (0,), amount), ("each_item", 0, ("int_from", bound)), lists)
                self.check_before(("increase", (0,), amount), ("at", (0,), ("int_from", bound)), lists)

    def test_the_whole_value_is_put_or_swapped(self):
        for word in ("put", "swap"):
            for formula in formulas_around(("a", 0)):
                condition = before_primitive((word, ()), formula)
                for held in (VALUE, NULL, ints(1)):
                    self.assertEqual(holds_with(condition, NULL, held), holds(formula, held))
                    self.assertEqual(holds_with(condition, VALUE, held), holds(formula, held))

    def test_each_divides_and_when_tells_apart(self):
        lists = [("list", (ints(*range(count)), ints(1), texts("a"))) for count in range(5)] + LISTS
        patch = (("add", (-1,), ("int", 1)), ("remove", (0,)))
        case = (("when", (0,), ("int", 1, None), (("remove", (0,)),), (("add", (0,), NULL),)),)
        for inner in (("items_from", 2), ("at", (0,), ("int_from", 1)), ("each_item", 1, INT), ("not", LIST)):
            for formula in (("each_item", 0, inner), ("each_item", 2, inner), ("at", (1,), inner), ("at", (1, 0), INT)):
                for each in (("each", (), patch), ("each", (), case), ("each", (), case + patch)):
                    self.check_before(each, formula, lists)
                    self.check_before(each, ("not", formula), lists)
                self.check_before(("each", (0,), ADD_ONE), formula, lists)
                self.check_before(case[0], formula, lists + ONE_OF_EACH)
                nested = ("when", (0,), ("list", ANY, 0, None), (("each", (), patch),), case)
                self.check_before(("when", (), ("tuple", (ANY,) * 3), (nested,), patch), formula, lists)

    def test_each_over_fields(self):
        values = [fields(a=("int", one), b=("int", two), c=("int", 9)) for one in (1, 3) for two in (2, 3)]
        values += [fields(o=value) for value in values] + [fields(), fields(a=NULL), fields(o=fields()), ints(1, 3)]
        for names in ((), ("a",), ("b", "c", "zz"), ("a", "b", "c")):
            for inner in (("int_from", 4), ("int_from", 3), ("not", ("int_from", 4)), ("not", INT)):
                formula = ("each_field", names, inner)
                for told in (formula, ("not", formula), ("at", ("o",), formula), ("at", ("o",), ("not", formula))):
                    self.check_before(("each", (), ADD_ONE), told, values)
                    self.check_before(("each", ("o",), ADD_ONE), told, values)
                    self.check_before(("each", ("o", "a"), ADD_ONE), told, values)

    def test_made_up_ones(self):
        rng = random.Random(162)
        reached = 0
        for _ in range(1500):
            value = made_value(rng, 4, KINDS[4:])
            for primitive in primitives_of(made_step(rng, 3, value)):
                words = WORDS if primitive[0] in ("each", "when") else WITH_HELD
                formula = made_formula(rng, rng.randrange(1, 5), words)
                values = [value, made_value(rng, 4), made_document(rng, 2)] + variants(value)[:10]
                reached += self.check_before(primitive, formula, values, [NULL, made_value(rng, 2), value])
        self.assertGreater(reached, 5000)


class BeforePatches(Conditions):
    def test_the_empty_patch(self):
        for formula in formulas_around(("a", 1)):
            condition = before((), formula)
            for value in [VALUE] + ONE_OF_EACH:
                self.assertEqual(holds(condition, value), holds(formula, value))

    def test_many_items(self):
        patches = [(("add", (-1,), ("int", 30)),) * 8, (("remove", (0,)),) * 8, (("move", (0,), (-1,)),) * 8]
        patches += [(("copy", (1,), (0,)), ("remove", (2,)), ("move", (0,), (3,)), ("increase", (3,), 5)) * 2]
        patches += [(("each", (), ADD_ONE), ("add", (2,), ("int", 3))) * 2]
        formulas = [("each_item", index, ("int_from", 3)) for index in (0, 2, 8)]
        formulas += [("at", (index,), ("not", ("int_from", 4))) for index in (0, 2, 7, 9)]
        formulas += [("items_from", 9), ("and", (("items_from", 8), ("not", ("items_from", 10))))]
        for patch in patches:
            values = LISTS + [ints(*range(30, 60)), ints(*range(130))]
            reached = [self.check_patch(patch, formula, values) for formula in formulas]
            self.assertGreater(sum(reached), 20)

    def test_whens_in_eaches_and_eaches_in_whens(self):
        case = ("when", ("a",), ("int", 1, None), (("remove", ("a",)),), (("add", ("a",), ("int", 2)), ("copy", (), ("b",))))
        inner = ("each", (), (case, ("when", ("b", "a"), ANY, (), (("add", ("c",), NULL),))))
        outer = ("when", (0,), ("object", (), ANY), (), (("remove", ()),))
        parts = [fields(a=("int", 1)), fields(a=("int", 0)), fields(), fields(b=NULL), fields(b=fields(a=NULL)), NULL]
        values = [("list", (one, other)) for one in parts for other in parts] + [("list", ()), NULL]
        formulas = [("each_item", 0, ("at", ("c",), TRUE)), ("at", (1, "b", "a"), INT), ("at", (0, "a"), TRUE),
                    ("not", ("each_item", 0, ("at", ("b",), TRUE))), ("each_item", 1, ("each_field", ("a",), OBJECT))]
        for patch in ((inner,), (inner, inner), (("when", (0, "a"), ANY, (inner,), ()), inner), (outer,)):
            for formula in formulas:
                self.check_patch(patch, formula, values)

    def test_made_up_ones(self):
        rng = random.Random(163)
        reached = 0
        for _ in range(900):
            value = made_value(rng, 4, KINDS[4:])
            patch = made_patch(rng, 3, value) if rng.random() < 0.6 else made_long_patch(rng, value)
            formula = made_formula(rng, rng.randrange(1, 5))
            reached += self.check_patch(patch, formula, [value, made_value(rng, 4)] + variants(value)[:25])
        self.assertGreater(reached, 1000)


class Nesting(unittest.TestCase):
    LONG = ("a", 0, "b", 1, "c", 2)
    OTHER = ("c", 2, "b", 1, "a", 0)

    def steps(self):
        deep = NULL
        for _ in range(18):
            deep = ("list", (deep,))
        schema = ("const", deep)
        for _ in range(5):
            schema = ("list", schema, 0, 2)
        targets = [self.LONG, self.LONG[:5] + (-1,), (), (-1,), (3,), ("a",)]
        steps = [("add", path, deep) for path in targets]
        for path in (self.LONG, (), (3,), ("a",)):
            steps += [("remove", path), ("replace", path, deep), ("test", path, deep), ("increase", path, 7)]
            steps += [(word, path, target) for word in ("move", "copy") for target in targets]
        steps += [("each", path, (step,)) for path in ((), self.LONG) for step in steps[::4]]
        steps += [("each", (), (("each", self.LONG, (step,)),)) for step in steps[:6]]
        steps += [("when", path, schema, (step,), ()) for path in ((), self.LONG) for step in steps[::4]]
        return steps

    def formulas(self):
        wraps = [lambda part: ("not", part), lambda part: ("and", (part, INT)), lambda part: ("or", (TEXT, part)),
                 lambda part: ("at", ("a",), part), lambda part: ("at", (), part), lambda part: ("each_item", 0, part),
                 lambda part: ("each_field", ("x",), part), lambda part: ("at", (0,), part)]
        for depth in (1, 2, 20, 120):
            found = [INT] * (len(wraps) + 2)
            for level in range(depth - 1):
                found = [wrap(part) for wrap, part in zip(wraps + [wraps[level % 3], wraps[level % 8]], found)]
            yield from found

    def test_one_step_and_as_many_as_there_can_be(self):
        steps = self.steps()
        for formula in self.formulas():
            bound = nesting_of(formula) + 70
            for step in steps:
                patch = (step,) * ({"each": 8 // steps_in((step,)), "when": 3}.get(step[0], 8))
                for repeated in ((step,), patch):
                    nesting = nesting_of(before(repeated, formula))
                    self.assertLessEqual(nesting, bound + 10 * steps_in(repeated), (step[:2], len(repeated)))

    def test_primitives(self):
        steps = self.steps()
        for formula in self.formulas():
            for step in steps:
                for primitive in primitives_of(step):
                    told = before_primitive(primitive, formula)
                    self.assertLessEqual(nesting_of(told), nesting_of(formula) + 70 + 10 * steps_in((primitive,)))

    def test_deep_held_parts(self):
        formula = ("held", INT)
        for level in range(118):
            formula = ("not", formula) if level % 2 else ("and", (formula, ("or", (TEXT, ("held", TRUE)))))
        for word, path in (("look", ("a",)), ("take", (0,)), ("put", self.LONG), ("swap", ())):
            told = before_primitive((word, path), formula)
            self.assertLessEqual(nesting_of(told), nesting_of(formula) + 80)
            self.assertIn(holds_with(told, VALUE, NULL), (True, False))


class Plainly(unittest.TestCase):
    def test_arguments_are_not_changed_and_answers_do_not_differ(self):
        rng = random.Random(164)
        for _ in range(80):
            value = made_value(rng, 3)
            patch, formula = made_patch(rng, 3, value), made_formula(rng, 4)
            condition = before(patch, formula)
            self.assertTrue(consists_of_tuples(condition))
            self.assertEqual(before(remade(patch), remade(formula)), condition)
            for step in patch:
                for primitive in primitives_of(step):
                    told = (success_of(primitive), before_primitive(primitive, formula))
                    copied = remade(primitive)
                    self.assertEqual((success_of(copied), before_primitive(copied, remade(formula))), told)


if __name__ == "__main__":
    unittest.main()
