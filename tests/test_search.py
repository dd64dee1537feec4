"""Examples for formulas (point 18)."""

import itertools
import random
import time
import unittest

from patchkept import search
from patchkept.formulas import holds
from patchkept.search import alternatives, build, example_of
from patchkept.values import depth_of
from tests.helpers import (
    KINDS, NULL, check_interface, fields, formula_about, ints, made_document, made_formula, made_value, nesting_of,
    remade, texts,
)

TRUE, FALSE = ("true",), ("false",)
INT, TEXT, LIST, OBJECT = ("kind", "int"), ("kind", "text"), ("kind", "list"), ("kind", "object")
CHARACTERS = [chr(code) for code in range(32, 127) if chr(code) != "%"]
WORDS = {"null": (), "bool": ("bool_is",), "int": ("int_from",), "text": ("text_is", "text_from"),
         "list": ("items_from", "each_item"), "object": ("each_field",)}
ONE_OF_EACH = [NULL, ("bool", True), ("bool", False), ("int", 0), ("text", ""), ("list", ()), ("object", ())]


def both(*formulas):
    return ("and", formulas)


def either(*formulas):
    return ("or", formulas)


def no(formula):
    return ("not", formula)


def exactly(number):
    return both(("int_from", number), no(("int_from", number + 1)))


def at(path, formula):
    return ("at", path, formula)


def some_item(index, formula):
    return no(("each_item", index, no(formula)))


def some_field(names, formula):
    return no(("each_field", names, no(formula)))


def missing(name):
    return no(at((name,), TRUE))


def has_form_of_demand(kind, demand):
    inner = demand[1] if demand[0] == "not" else demand
    if inner[0] in WORDS[kind]:
        return True
    if inner[0] != "at" or kind not in ("list", "object") or len(inner[1]) != 1:
        return False
    if not isinstance(inner[1][0], int if kind == "list" else str):
        return False
    return demand[0] == "at" or (kind == "object" and inner[2] == TRUE)


VALUES = ONE_OF_EACH + [("int", -1), ("int", 3), ("int", 7), ("text", "a"), ("text", "ab"), ("text", "x" * 9)]
VALUES += [ints(*range(count)) for count in range(1, 6)] + [texts("a"), texts("b", "a"), ("list", (ints(1), ints()))]
VALUES += [fields(a=NULL), fields(a=("int", 1)), fields(a=fields(b=("int", 1))), fields(a=ints(1, 2), b=NULL, c=NULL)]


class Interface(unittest.TestCase):
    def test_names_and_arguments(self):
        listed = {"alternatives": ["kind", "formulas"], "build": ["kind", "demands"], "example_of": ["formula"]}
        check_interface(self, search, listed)


class Alternatives(unittest.TestCase):
    def check(self, formulas, values=VALUES, kinds=KINDS):
        deepest = max([nesting_of(formula) for formula in formulas], default=0)
        for kind in kinds:
            listed = list(formulas)
            found = alternatives(kind, listed)
            self.assertEqual(listed, list(formulas))
            self.assertEqual(found, alternatives(kind, listed))
            self.assertIs(type(found), list)
            for demands in found:
                self.assertIs(type(demands), list)
                for demand in demands:
                    self.assertTrue(has_form_of_demand(kind, demand), (kind, demand, formulas))
                    self.assertLessEqual(nesting_of(demand), deepest + 2)
            for value in values:
                if value[0] == kind:
                    expected = all(holds(formula, value) for formula in formulas)
                    met = [demands for demands in found if all(holds(demand, value) for demand in demands)]
                    self.assertEqual(bool(met), expected, (kind, formulas, value))

    def test_no_formulas(self):
        self.check([])
        self.assertNotEqual(alternatives("null", []), [])

    def test_null_needs_no_demands(self):
        for formula in (TRUE, ("kind", "null"), no(INT), either(TRUE, TRUE), both(), no(("int_from", 1))):
            self.assertTrue(alternatives("null", [formula]))
            self.assertEqual([demands for demands in alternatives("null", [formula]) if demands], [])
        for formula in (FALSE, no(("kind", "null")), INT, either(), no(at((), TRUE)), at(("a",), TRUE)):
            self.assertEqual(alternatives("null", [formula]), [])

    def test_one_formula_of_each_form(self):
        leaves = [TRUE, FALSE, ("int_from", 1), ("bool_is", True), ("bool_is", False), ("text_is", "a"), ("text_from", 2),
                  ("items_from", 0), ("items_from", 2), both(), either()] + [("kind", kind) for kind in KINDS]
        for leaf in leaves:
            around = [leaf, at((), leaf), at((0,), leaf), at(("a",), leaf), at(("a", 0, "b"), leaf), at((1, 0), leaf)]
            around += [("each_item", 0, leaf), ("each_item", 1, leaf), ("each_field", (), leaf), ("each_field", ("a", "a"), leaf)]
            for formula in around:
                self.check([formula])
                self.check([no(formula)])
                self.check([no(no(formula))])
                self.check([at((), no(at((), formula)))])
                self.check([either(formula, no(leaf)), both(formula, LIST)])

    def test_long_paths_stay_within_the_nesting(self):
        for path in (("a", "b", "c", "d", "e", "f"), (0, 1, "a", 2), ("a", 0), tuple(range(9))):
            for inner in (TRUE, INT, no(INT), both(INT, no(at(("a",), INT)))):
                self.check([at(path, inner)])
                self.check([no(at(path, inner))])
                self.check([at(path[:2], no(at(path[2:], inner))), no(at(path[:1], at(path[1:], inner)))])

    def test_several_formulas(self):
        ranges = [either(exactly(number), exactly(number + 4)) for number in (0, 3, 4)]
        self.check(ranges[:2])
        self.check(ranges)
        lists = [either(("items_from", 3), at((0,), INT)), no(both(("each_item", 1, TEXT), ("items_from", 2)))]
        self.check(lists + [no(no(some_item(0, ("int_from", 2))))])
        objects = [either(missing("a"), at(("a",), INT)), either(at(("a", "b"), INT), ("each_field", ("a",), INT))]
        self.check(objects + [no(missing("b"))])
        self.check([either(LIST, OBJECT, no(INT)), either(TEXT, ("int_from", 3), at((0,), INT))])

    def test_made_up_ones(self):
        rng = random.Random(181)
        values = VALUES + [made_document(rng, 2) for _ in range(60)]
        for _ in range(250):
            formula = formula_about(rng, rng.choice(("list", "object")), rng.choice((1, 2)))
            self.check([formula], values, ("list", "object"))
        for _ in range(250):
            self.check([made_formula(rng, rng.randrange(1, 5)) for _ in range(rng.randrange(3))], values)
        for kind in ("bool", "int", "text"):
            for _ in range(60):
                self.check([formula_about(rng, kind, 0), formula_about(rng, kind, 0)], values, (kind,))


class Build(unittest.TestCase):
    def check(self, kind, demands, is_possible):
        listed = list(demands)
        value = build(kind, listed)
        self.assertEqual(listed, list(demands))
        self.assertEqual(build(kind, remade(tuple(demands)) and list(remade(tuple(demands)))), value)
        if not is_possible:
            self.assertIsNone(value, (kind, demands))
            return None
        self.assertIsNotNone(value, (kind, demands))
        self.assertEqual(value[0], kind)
        for demand in demands:
            self.assertTrue(holds(demand, value), (kind, demand, value))
        return value

    def test_no_demands(self):
        for kind in KINDS:
            self.check(kind, [], True)

    def test_bools(self):
        for first in (True, False):
            for second in (True, False):
                self.check("bool", [("bool_is", first), ("bool_is", second)], first == second)
                self.check("bool", [("bool_is", first), no(("bool_is", second))], first != second)
                self.check("bool", [no(("bool_is", first)), no(("bool_is", second))], first == second)

    def test_ints(self):
        big = 10 ** 40
        for low in (-big, -3, 0, 5, big):
            for high in (-big, -3, 0, 5, 6, big + 10 ** 9):
                self.check("int", [("int_from", low), no(("int_from", high))], low < high)
                self.check("int", [("int_from", 0), ("int_from", low), no(("int_from", high))], max(low, 0) < high)
                self.check("int", [no(("int_from", low)), no(("int_from", high))], True)

    def test_texts(self):
        one = [("text_from", 1), no(("text_from", 2))]
        for many, left in ((70, True), (93, True), (94, False)):
            self.check("text", one + [no(("text_is", character)) for character in CHARACTERS[:many]], left)
        self.check("text", [("text_is", "ab"), ("text_from", 2)], True)
        self.check("text", [("text_is", "ab"), ("text_from", 3)], False)
        self.check("text", [("text_is", "ab"), no(("text_from", 2))], False)
        self.check("text", [("text_is", "ab"), ("text_is", "ac")], False)
        self.check("text", [("text_is", "ab"), no(("text_is", "ac"))], True)
        self.check("text", [("text_is", "ab"), no(("text_is", "ab"))], False)
        self.check("text", [no(("text_is", "")), no(("text_from", 1))], False)
        self.check("text", [("text_from", 60), no(("text_from", 61)), no(("text_is", "a" * 60))], True)
        self.check("text", [("text_from", 4), no(("text_from", 4))], False)

    def test_counts_of_items(self):
        for low in (0, 1, 5, 60):
            for high in (0, 1, 5, 6, 60):
                value = self.check("list", [("items_from", low), no(("items_from", high))], low < high)
                if value is not None:
                    self.assertTrue(low <= len(value[1]) < high)
        for least, most in ((4, 5), (5, 4), (4, 6), (6, 4)):
            bounds = [no(("items_from", least)), no(("items_from", most))]
            for many in (3, 4):
                self.check("list", bounds + [some_item(0, exactly(number)) for number in range(many)], many == 3)
        self.check("list", [no(("items_from", 1)), at((0,), TRUE)], False)
        self.check("list", [no(("items_from", 2)), at((0,), TRUE)], True)
        self.check("list", [no(("items_from", 60)), at((60,), TRUE)], False)
        self.check("list", [at((60,), INT), at((59,), TEXT)], True)

    def test_items(self):
        self.check("list", [at((2,), INT), ("each_item", 0, INT)], True)
        self.check("list", [at((2,), INT), ("each_item", 0, TEXT)], False)
        self.check("list", [at((2,), INT), ("each_item", 3, TEXT)], True)
        self.check("list", [at((2,), INT), ("each_item", 2, TEXT)], False)
        self.check("list", [at((2,), INT), at((2,), TEXT)], False)
        self.check("list", [at((2,), TRUE), ("each_item", 1, FALSE)], False)
        self.check("list", [("items_from", 3), ("each_item", 3, FALSE)], True)
        self.check("list", [("items_from", 4), ("each_item", 3, FALSE)], False)
        self.check("list", [at((1,), both(INT, no(("int_from", 4)))), ("each_item", 0, ("int_from", 3))], True)
        self.check("list", [at((1,), both(INT, no(("int_from", 4)))), ("each_item", 0, ("int_from", 4))], False)

    def test_formulas_for_some_item(self):
        for count in (1, 2, 3, 4):
            for wanted in (1, 2, 3, 4, 5):
                wishes = [some_item(0, exactly(number)) for number in range(wanted)]
                self.check("list", wishes + [no(("items_from", count + 1))], wanted <= count)
                late = [some_item(2, exactly(number)) for number in range(wanted)]
                self.check("list", late + [no(("items_from", count + 3))], wanted <= count)
        self.check("list", [some_item(0, INT), ("each_item", 0, TEXT)], False)
        self.check("list", [some_item(0, INT), ("each_item", 1, TEXT)], True)
        self.check("list", [some_item(1, INT), ("each_item", 1, TEXT)], False)
        self.check("list", [some_item(0, INT), some_item(0, TEXT), ("each_item", 1, TEXT)], True)
        self.check("list", [some_item(0, INT), some_item(0, TEXT), ("each_item", 1, INT)], True)
        self.check("list", [some_item(1, INT), some_item(0, TEXT), ("each_item", 1, INT), at((0,), INT)], False)
        self.check("list", [some_item(3, INT), some_item(0, TEXT), no(("items_from", 4)), ("each_item", 2, INT)], False)
        self.check("list", [some_item(3, INT), some_item(0, TEXT), no(("items_from", 5)), ("each_item", 2, INT)], True)
        self.check("list", [some_item(0, ("int_from", 3)), some_item(0, no(("int_from", 9))), no(("items_from", 2))], True)
        self.check("list", [some_item(0, TRUE), ("each_item", 0, FALSE)], False)
        self.check("list", [some_item(60, INT), ("each_item", 0, INT)], True)
        self.check("list", [some_item(0, FALSE)], False)

    def test_places_that_are_alike_for_one_wish_alone(self):
        # The first wish must not take the one place that the second one can have.
        self.check("list", [some_item(0, INT), some_item(1, TEXT), no(("items_from", 3))], True)
        self.check("object", [some_field((), exactly(1)), some_field(("a",), exactly(2)), ("each_field", ("a", "b"), FALSE)], True)
        self.check("object", [some_field(("b",), exactly(1)), some_field((), exactly(2)), ("each_field", ("a", "b"), FALSE)], True)
        self.check("object", [some_field(("b",), exactly(1)), some_field(("b",), exactly(2)),
                              ("each_field", ("a", "b"), FALSE)], False)

    def test_fields(self):
        self.check("object", [at(("a",), INT), missing("a")], False)
        self.check("object", [at(("a",), INT), missing("b")], True)
        self.check("object", [at(("a",), INT), at(("a",), TEXT)], False)
        self.check("object", [at(("a",), INT), at(("",), TEXT)], True)
        self.check("object", [at(("a",), INT), ("each_field", (), TEXT)], False)
        self.check("object", [at(("a",), INT), ("each_field", ("b", "a"), TEXT)], True)
        self.check("object", [at(("a",), INT), ("each_field", ("b",), ("int_from", 3)), ("each_field", ("a",), TEXT)], True)
        self.check("object", [("each_field", (), FALSE)], True)
        self.check("object", [at(("b",), TRUE), ("each_field", ("a",), FALSE)], False)

    def test_formulas_for_some_field(self):
        self.check("object", [some_field((), INT)], True)
        self.check("object", [some_field(("a", "b"), INT), ("each_field", ("a", "b"), TEXT)], False)
        self.check("object", [some_field(("a",), INT), ("each_field", ("a", "b"), TEXT)], True)
        self.check("object", [some_field(("a",), INT), ("each_field", ("a", "b"), TEXT), missing("b")], False)
        self.check("object", [some_field(("a",), INT), ("each_field", ("a", "b"), TEXT), at(("b",), TEXT)], False)
        self.check("object", [some_field((), exactly(number)) for number in range(6)] + [("each_field", (), INT)], True)
        within = ("each_field", ("a", "b", "c"), FALSE)
        for many in range(1, 6):
            wishes = [some_field((), exactly(number)) for number in range(many)]
            self.check("object", wishes + [within], many <= 3)
            self.check("object", wishes + [within, at(("a",), TEXT)], many <= 2)
        self.check("object", [some_field(("a",), exactly(0)), some_field(("b",), exactly(1)), some_field(("c",), exactly(2)), within], True)
        self.check("object", [some_field(("a", "b"), exactly(0)), some_field(("c", "b"), exactly(1)),
                              some_field(("a", "c"), exactly(2)), within], True)
        self.check("object", [some_field(("a", "b"), exactly(0)), some_field(("a", "b"), exactly(1)), within], False)

    def test_more_wishes_than_places_are_seen_to_be_too_many(self):
        started = time.process_time()
        for many in (60, 61):
            wishes = [some_item(number % 5, exactly(number)) for number in range(many)]
            self.check("list", wishes + [no(("items_from", 61))], many == 60)
        for first, is_possible in ((0, True), (1, False)):
            wishes = [some_item(number + first, exactly(number)) for number in range(40)]
            self.check("list", wishes + [no(("items_from", 41))], is_possible)
        names = tuple(CHARACTERS[:12])
        for many in (12, 13):
            wishes = [some_field((names[number % 12],), exactly(number)) for number in range(many)]
            self.check("object", wishes + [("each_field", names, FALSE)], many == 12)
            wishes = [some_field(names[:number % 12], exactly(number)) for number in range(many)]
            self.check("object", wishes + [("each_field", names, FALSE)], many == 12)
        self.assertLess(time.process_time() - started, 30)

    def test_wishes_that_can_share_a_place_and_ones_that_cannot(self):
        apart = [some_item(number % 3, exactly(number)) for number in range(8)]
        shared = [some_item(0, ("int_from", 5)), some_item(3, no(("int_from", 2))), some_item(7, TRUE)]
        for most in (7, 8, 9):
            self.check("list", apart + shared + [no(("items_from", most + 1))], most >= 8)
        self.check("list", apart + shared + [no(("items_from", 9)), at((7,), TEXT)], False)
        self.check("list", apart + shared + [no(("items_from", 10)), at((7,), TEXT)], True)
        self.check("list", apart + [some_item(0, TEXT), no(("items_from", 9))], False)

    def test_alternatives_can_be_built_exactly_if_there_is_an_example(self):
        rng = random.Random(182)
        values = [made_document(rng, 2) for _ in range(150)]
        for _ in range(250):
            formula = formula_about(rng, rng.choice(("list", "object")), rng.choice((1, 2)))
            for kind in ("list", "object"):
                built = [(demands, build(kind, demands)) for demands in alternatives(kind, [formula])]
                for demands, value in built:
                    if value is not None:
                        self.assertTrue(value[0] == kind and all(holds(demand, value) for demand in demands))
                    else:
                        fitting = [other for other in values if other[0] == kind]
                        met = [other for other in fitting if all(holds(demand, other) for demand in demands)]
                        self.assertEqual(met, [], demands)
                is_built = any(value is not None for _, value in built)
                self.assertEqual(is_built, example_of(both(("kind", kind), formula)) is not None, formula)


class Examples(unittest.TestCase):
    def check(self, formula, is_possible):
        value = example_of(formula)
        self.assertEqual(value is not None, is_possible, str(formula)[:300])
        if is_possible:
            self.assertTrue(holds(formula, value))
        return value

    def test_examples_of_the_document(self):
        self.assertEqual(example_of(both(("int_from", 4), no(("int_from", 5)))), ("int", 4))
        self.assertIsNone(example_of(both(("each_item", 0, INT), at((0,), TEXT))))

    def test_constants_and_empty_parts(self):
        for formula in (TRUE, no(FALSE), both(), no(either()), at((), TRUE), both(TRUE, either(FALSE, TRUE))):
            self.check(formula, True)
            self.check(no(formula), False)

    def test_each_kind(self):
        for kind in KINDS:
            self.assertEqual(self.check(("kind", kind), True)[0], kind)
            self.check(both(("kind", kind), no(("kind", kind))), False)
            rest = both(*[no(("kind", other)) for other in KINDS if other != kind])
            self.assertEqual(self.check(rest, True)[0], kind)
            self.check(both(rest, no(("kind", kind))), False)
        for formula in (("int_from", 3), ("bool_is", True), ("text_is", "a"), ("text_from", 0), ("items_from", 0),
                        ("each_item", 0, FALSE), ("each_field", (), FALSE)):
            value = self.check(formula, True)
            self.check(both(no(formula), ("kind", value[0])), formula not in (("text_from", 0), ("items_from", 0)))

    def test_bools_are_told_apart(self):
        self.assertEqual(self.check(both(("kind", "bool"), no(("bool_is", True))), True), ("bool", False))
        self.check(both(("kind", "bool"), no(("bool_is", True)), no(("bool_is", False))), False)

    def test_paths(self):
        self.check(at(("a",), at((0,), at(("b",), INT))), True)
        self.check(both(at(("a",), TRUE), at((0,), TRUE)), False)
        self.check(both(at(("a", 0), TRUE), at(("a", "b"), TRUE)), False)
        self.check(both(at(("a", 0), INT), no(at(("a", 1), TRUE)), at(("a",), ("items_from", 2))), False)
        self.check(both(at(("a", 0), INT), no(at(("a", 1), INT)), at(("a",), ("items_from", 2))), True)
        self.check(both(no(at((0,), TRUE)), LIST), True)
        self.check(both(no(at((0,), TRUE)), ("items_from", 1)), False)
        self.check(at((60, 60, 60), exactly(60)), True)

    def test_a_formula_or_its_opposite_has_an_example(self):
        rng = random.Random(183)
        known = [made_value(rng, depth) for depth in (1, 2, 3, 4) for _ in range(50)]
        known += [made_document(rng, 2) for _ in range(200)]
        impossible = 0
        for turn in range(1200):
            depth = rng.choice((1, 1, 2, 3))
            formula = formula_about(rng, rng.choice(KINDS[2:]), depth) if turn % 2 else made_formula(rng, depth + 2)
            value, other = example_of(formula), example_of(no(formula))
            self.assertTrue(value is not None or other is not None)
            self.assertTrue(value is None or holds(formula, value), formula)
            self.assertTrue(other is None or not holds(formula, other), formula)
            self.assertIsNotNone(example_of(either(formula, no(formula))))
            self.assertIsNone(example_of(both(formula, no(formula))))
            if value is None or other is None:
                impossible += 1
                for given in known:
                    self.assertEqual(holds(formula, given), other is None, formula)
        self.assertGreater(impossible, 150)

    def test_thirty_levels(self):
        number = exactly(7)
        wraps = [lambda part: at(("a",), part), lambda part: ("each_item", 0, part), lambda part: some_item(2, part),
                 lambda part: ("each_field", ("a",), part), lambda part: some_field((), part), lambda part: at((1,), part)]
        for first in range(len(wraps)):
            formula = number
            for level in range(30):
                formula = wraps[(first + level) % len(wraps)](formula)
            value = self.check(both(formula, TRUE), True)
            self.assertLessEqual(depth_of(value), 31)
            self.check(both(formula, no(formula)), False)
        path = ("a", 2, "b") * 10
        value = self.check(both(at(path, number), at(path[:9], no(at((0, "b"), TRUE)))), True)
        self.assertLessEqual(depth_of(value), 31)
        self.check(both(at(path, number), at(path[:29], at(path[29:], TEXT))), False)

    def test_many_items_on_many_levels(self):
        formula = number = exactly(7)
        for _ in range(30):
            formula = both(("items_from", 60), ("each_item", 0, formula))
        # The value has far too many items to be looked at one by one.
        value = example_of(formula)
        for level in range(30):
            self.assertEqual((value[0], len(value[1])), ("list", 60))
            value = value[1][level]
        self.assertTrue(holds(number, value))
        self.assertIsNone(example_of(both(formula, at((0,) * 29, no(("items_from", 1))))))

    def test_counts_and_indexes_up_to_sixty(self):
        for count in (1, 30, 59, 60):
            same = both(("items_from", count), no(("items_from", count + 1)), ("each_item", 0, INT))
            self.assertEqual(len(self.check(same, True)[1]), count)
            self.check(both(same, some_item(count - 1, ("int_from", 3))), True)
            self.check(both(same, some_item(count, ("int_from", 3))), False)
            self.check(both(same, at((count - 1,), ("int_from", 3))), True)
            self.check(both(same, at((count,), TRUE)), False)
            self.check(both(LIST, no(("items_from", count)), some_item(count - 1, TRUE)), False)

    def test_deep_nesting(self):
        formula = INT
        for level in range(298):
            formula = [no(formula), both(formula, no(TEXT)), either(TEXT, formula), at((), formula)][level % 4]
        self.assertIsNotNone(example_of(formula))
        self.assertIsNone(example_of(both(formula, no(formula))))
        formula = exactly(3)
        for level in range(29):
            inner = formula
            for _ in range(4):
                inner = no(both(no(inner), no(("text_is", "a"))))
            formula = at((level,), inner)
        self.check(formula, True)

    def test_eighty_strings(self):
        strings = CHARACTERS[:40] + [character * 2 for character in CHARACTERS[:40]]
        barred = both(*[no(("text_is", string)) for string in strings])
        self.check(both(TEXT, barred, ("text_from", 1), no(("text_from", 2))), True)
        self.check(both(either(*[("text_is", string) for string in strings]), ("text_from", 2), no(("text_from", 3))), True)
        self.check(both(either(*[("text_is", string) for string in strings]), barred), False)
        items = both(*[some_item(0, ("text_is", string)) for string in strings])
        self.check(items, True)

    def test_choices_that_have_to_do_with_each_other(self):
        names = "abcdefgh"
        apart = [no(both(at((one,), ("bool_is", flag)), at((two,), ("bool_is", flag))))
                 for one, two in zip(names, names[1:] + names[0]) for flag in (True, False)]
        flags = [at((name,), ("kind", "bool")) for name in names]
        self.check(both(*apart, *flags), True)
        self.check(both(*apart, *flags, at(("a",), ("bool_is", True)), at(("d",), ("bool_is", True))), False)
        self.check(both(*[either(missing(name), at((name,), exactly(1))) for name in names], *[no(missing(name)) for name in names]), True)

    def test_choices_are_tried_as_far_as_a_table_of_all_flags_tells(self):
        rng = random.Random(186)
        found = [0, 0]
        for turn in range(240):
            tokens = (range(5) if turn % 2 else "abcde")
            clauses = [[(token, rng.random() < 0.5) for token in rng.sample(tokens, 3)] for _ in range(rng.randrange(15, 30))]
            table = [dict(zip(tokens, flags)) for flags in itertools.product((True, False), repeat=5)]
            is_possible = any(all(any(row[token] == flag for token, flag in clause) for clause in clauses) for row in table)
            parts = [either(*[at((token,), ("bool_is", flag)) for token, flag in clause]) for clause in clauses]
            self.check(both(*parts), is_possible)
            found[is_possible] += 1
        self.assertGreater(min(found), 30)

    def test_the_search_ends_soon(self):
        rng = random.Random(184)
        started = time.process_time()
        for _ in range(60):
            example_of(both(formula_about(rng, "object", 3), formula_about(rng, "list", 3)))
            example_of(formula_about(rng, "any", 3, 3))
        # Ten times as many as twelve questions take far less than some seconds.
        self.assertLess(time.process_time() - started, 30)

    def test_arguments_are_not_changed_and_answers_do_not_differ(self):
        rng = random.Random(185)
        for _ in range(100):
            formula = formula_about(rng, "any", 2)
            kept = remade(formula)
            self.assertEqual(example_of(formula), example_of(kept))
            self.assertEqual(formula, kept)


if __name__ == "__main__":
    unittest.main()
