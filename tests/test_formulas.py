"""Formulas and whether they hold (point 15)."""

import random
import unittest

from patchkept import formulas
from patchkept.formulas import holds, holds_with
from tests.helpers import (
    KINDS, NULL, check_interface, fields, ints, made_formula, made_value, nesting_of, place_of, remade,
)

TRUE, FALSE = ("true",), ("false",)
YES, NO = ("bool", True), ("bool", False)
ONE, TWO, THREE = ("int", 1), ("int", 2), ("int", 3)
INT, TEXT = ("kind", "int"), ("kind", "text")
EMPTY_LIST, EMPTY_OBJECT = ("list", ()), ("object", ())
BIG = 10 ** 60 - 1
ONE_OF_EACH = [NULL, YES, NO, ("int", 0), ONE, ("text", ""), ("text", "ab"), EMPTY_LIST, EMPTY_OBJECT,
               ("list", (NULL,)), ("object", (("a", NULL),))]
PLAIN_WORDS = ("not", "and", "or", "at", "each_item", "each_field")
DEEP = fields(a=("list", (ONE, fields(b=("text", "x"), c=EMPTY_LIST), ints(1, 2))), d=NULL)


def model(formula, value, held):
    kind = value[0]
    match formula:
        case ("true",):
            return True
        case ("not", inner):
            return not model(inner, value, held)
        case ("and", inner):
            return not [part for part in inner if not model(part, value, held)]
        case ("or", inner):
            return bool([part for part in inner if model(part, value, held)])
        case ("at", path, inner):
            place = place_of(value, path)
            return place is not None and model(inner, place, held)
        case ("kind", word):
            return kind == word
        case ("int_from", number):
            return kind == "int" and not value[1] < number
        case ("bool_is", flag):
            return kind == "bool" and value[1] is flag
        case ("text_is", string):
            return kind == "text" and value[1] == string
        case ("text_from", count):
            return kind == "text" and not len(value[1]) < count
        case ("items_from", count):
            return kind == "list" and not len(value[1]) < count
        case ("each_item", index, inner):
            return kind == "list" and all(model(inner, x, held) for at, x in enumerate(value[1]) if at >= index)
        case ("each_field", names, inner):
            return kind == "object" and all(model(inner, x, held) for name, x in value[1] if name not in names)
        case ("held", inner):
            return model(inner, held, None)
    return False


class Formulas(unittest.TestCase):
    def check(self, formula, true_at, false_at):
        for values, expected in ((true_at, True), (false_at, False)):
            for value in values:
                with self.subTest(formula=formula, value=value):
                    self.assertIs(holds(formula, value), expected)
                    self.assertIs(holds_with(formula, value, NULL), expected)
                    self.assertIs(holds_with(("held", formula), NULL, value), expected)
                    self.assertIs(holds(("not", formula), value), not expected)

    def kinds_except(self, kind):
        return [value for value in ONE_OF_EACH if value[0] != kind]


class Interface(unittest.TestCase):
    def test_names_and_arguments(self):
        check_interface(self, formulas, {"holds": ["formula", "value"], "holds_with": ["formula", "value", "held"]})


class ByItself(Formulas):
    def test_true_and_false(self):
        self.check(TRUE, ONE_OF_EACH, [])
        self.check(FALSE, [], ONE_OF_EACH)

    def test_kind(self):
        for kind in KINDS:
            same = [value for value in ONE_OF_EACH if value[0] == kind]
            self.check(("kind", kind), same, self.kinds_except(kind))
            self.assertTrue(same)

    def test_int_from(self):
        self.check(("int_from", 3), [("int", 3), ("int", 4), ("int", BIG)], [("int", 2), ("int", 0), ("int", -3)])
        self.check(("int_from", 0), [("int", 0), ONE], [("int", -1)] + self.kinds_except("int"))
        self.check(("int_from", -3), [("int", -3), ("int", -2), ("int", 5)], [("int", -4), ("int", -BIG)])
        self.check(("int_from", BIG), [("int", BIG), ("int", BIG + 1)], [("int", BIG - 1)])
        self.check(("int_from", -BIG), [("int", -BIG), ("int", 0)], [("int", -BIG - 1), YES, NO])

    def test_bool_is(self):
        self.check(("bool_is", True), [YES], [NO, ONE, ("int", 0)] + self.kinds_except("bool"))
        self.check(("bool_is", False), [NO], [YES, ONE, ("int", 0)] + self.kinds_except("bool"))

    def test_text_is(self):
        others = [("text", text) for text in ("a", "abc", "ba", "AB", "ab ", " ab", "")]
        self.check(("text_is", "ab"), [("text", "ab")], others + self.kinds_except("text"))
        self.check(("text_is", ""), [("text", "")], [("text", " "), NULL, EMPTY_LIST, EMPTY_OBJECT])
        self.check(("text_is", "null"), [("text", "null")], [NULL])

    def test_text_from(self):
        texts = [("text", "x" * count) for count in range(6)]
        for count in range(6):
            self.check(("text_from", count), texts[count:], texts[:count] + self.kinds_except("text"))
        self.check(("text_from", 0), [("text", "")], [EMPTY_LIST, EMPTY_OBJECT, NULL, ("int", 0)])

    def test_items_from(self):
        lists = [ints(*range(count)) for count in range(6)]
        for count in range(6):
            self.check(("items_from", count), lists[count:], lists[:count] + self.kinds_except("list"))
        self.check(("items_from", 0), [EMPTY_LIST], [EMPTY_OBJECT, NULL, ("text", ""), ("int", 0)])
        self.check(("items_from", 1), [("list", (EMPTY_LIST,))], [fields(a=ONE), ("text", "ab")])


class Joined(Formulas):
    def test_not(self):
        self.check(("not", TRUE), [], ONE_OF_EACH)
        self.check(("not", FALSE), ONE_OF_EACH, [])
        self.check(("not", ("int_from", 3)), [TWO, NULL, ("text", "3")], [THREE, ("int", 4)])
        self.check(("not", ("not", INT)), [ONE], self.kinds_except("int"))

    def test_and(self):
        self.check(("and", (("int_from", 1), ("not", ("int_from", 3)))), [ONE, TWO], [("int", 0), THREE, NULL])
        self.check(("and", (INT, TEXT)), [], ONE_OF_EACH)
        self.check(("and", (TRUE, TRUE, INT)), [ONE], [NULL])
        self.check(("and", (INT, TRUE, TRUE)), [ONE], [NULL])
        self.check(("and", (TRUE, INT, TRUE)), [ONE], [NULL])

    def test_or(self):
        self.check(("or", (INT, TEXT)), [ONE, ("text", "")], [NULL, YES, EMPTY_LIST])
        self.check(("or", (FALSE, FALSE, INT)), [ONE], [NULL])
        self.check(("or", (INT, FALSE, FALSE)), [ONE], [NULL])
        self.check(("or", (FALSE, INT, FALSE)), [ONE], [NULL])
        self.check(("or", (FALSE, FALSE)), [], ONE_OF_EACH)

    def test_empty_and_and_empty_or(self):
        self.check(("and", ()), ONE_OF_EACH, [])
        self.check(("or", ()), [], ONE_OF_EACH)

    def test_and_and_or_of_one(self):
        for word in ("and", "or"):
            self.check((word, (INT,)), [ONE], self.kinds_except("int"))
            self.check((word, (("not", INT),)), self.kinds_except("int"), [ONE])

    def test_each_in_the_other(self):
        small, never = ("and", (INT, ("not", ("int_from", 2)))), ("and", (TEXT, ("or", ())))
        formula = ("or", (small, never, ("and", (TEXT,))))
        self.check(formula, [ONE, ("text", "")], [TWO, NULL])
        self.check(("and", (("or", (INT, TEXT)), ("not", ("or", (("text_is", "x"), ("int_from", 2)))))),
                   [ONE, ("text", "y")], [TWO, ("text", "x"), NULL])
        self.check(("not", ("and", (("or", ()), TRUE))), ONE_OF_EACH, [])


class Places(Formulas):
    def test_at(self):
        self.check(("at", ("a",), INT), [fields(a=ONE), fields(a=ONE, b=NULL)], [fields(a=NULL), fields(b=ONE)])
        self.check(("at", (1,), INT), [ints(0, 1), ("list", (NULL, ONE, NULL))], [ints(0), ("list", (ONE, NULL))])
        self.check(("at", ("a", 1, "b"), ("text_is", "x")), [DEEP], [fields(a=ints(1, 2)), NULL])

    def test_at_the_empty_path(self):
        self.check(("at", (), INT), [ONE], self.kinds_except("int"))
        self.check(("at", (), TRUE), ONE_OF_EACH, [])

    def test_at_a_path_that_leads_nowhere(self):
        for path in (("x",), (0,), ("a", 3), ("a", "b"), ("d", "d"), ("a", 0, 0), ("x", "y", 0), ("a", 60)):
            self.check(("at", path, TRUE), [], [DEEP])
            self.check(("at", path, FALSE), [], [DEEP])
            self.check(("at", path, ("not", TRUE)), [], [DEEP])
            self.check(("at", path, ("and", ())), [], [DEEP])
            self.check(("not", ("at", path, FALSE)), [DEEP], [])

    def test_at_within_at(self):
        self.check(("at", ("a",), ("at", (1,), ("at", ("b",), TEXT))), [DEEP], [fields(a=ints(1)), DEEP[1][0][1]])
        self.check(("at", ("a",), ("at", (1, "b"), ("at", (), INT))), [], [DEEP])

    def test_longer_paths_and_greater_indexes_than_in_steps(self):
        value, other = ONE, TWO
        for _ in range(19):
            value, other = [fields(k=("list", (NULL,) * 11 + (part,))) for part in (value, other)]
        self.check(("at", ("k", 11) * 19, ("not", ("int_from", 2))), [value], [other, fields(k=EMPTY_LIST)])
        self.check(("at", (10 ** 20,), TRUE), [], [ints(1), fields(a=ONE), NULL])

    def test_each_item(self):
        self.check(("each_item", 0, INT), [EMPTY_LIST, ints(1), ints(1, 2, 3)], [("list", (NULL,))])
        for index in range(3):
            items = [ONE, TWO, THREE]
            items[index] = NULL
            self.check(("each_item", 0, INT), [], [("list", tuple(items))])

    def test_each_item_from_an_index_on(self):
        value = ("list", (NULL, YES, ONE, TWO))
        for index, expected in ((0, False), (1, False), (2, True), (3, True), (4, True), (5, True), (60, True)):
            self.check(("each_item", index, INT), [value] if expected else [], [] if expected else [value])
        self.check(("each_item", 1, INT), [ints(1, 2), ("list", (NULL, ONE))], [("list", (ONE, NULL))])

    def test_each_item_from_an_index_beyond_the_last_item(self):
        for formula in (TRUE, FALSE, INT, ("or", ())):
            for count in range(4):
                self.check(("each_item", count, formula), [ints(*range(count))], [])
                self.check(("each_item", count + 5, formula), [ints(*range(count))], [])
        self.check(("each_item", 2, FALSE), [EMPTY_LIST, ints(1), ints(1, 2)], [ints(1, 2, 3), ints(1, 2, 3, 4)])

    def test_each_item_at_other_kinds(self):
        for formula in (TRUE, FALSE, INT):
            self.check(("each_item", 0, formula), [], self.kinds_except("list"))
            self.check(("each_item", 9, formula), [], self.kinds_except("list"))

    def test_each_field(self):
        formula = ("each_field", (), INT)
        self.check(formula, [EMPTY_OBJECT, fields(a=ONE), fields(a=ONE, b=TWO)], [
            fields(a=NULL), fields(a=ONE, b=NULL), fields(a=NULL, b=ONE), fields(a=ONE, b=NULL, c=TWO),
        ])

    def test_each_field_with_names_that_are_all_some_and_none_of_the_fields(self):
        value = fields(a=NULL, b=ONE, c=YES)
        for names in (("a", "b", "c"), ("c", "a"), ("a", "c", "x"), ("c", "a", "a", "c"), ("a", "b", "c", "d", "")):
            self.check(("each_field", names, INT), [value], [])
        for names in ((), ("a",), ("c",), ("b",), ("a", "b"), ("b", "c"), ("x", "y"), ("", "A", "aa"), ("a", "a")):
            self.check(("each_field", names, INT), [], [value])
        self.check(("each_field", ("a", "b", "c"), FALSE), [value, EMPTY_OBJECT, fields(b=ONE)], [fields(d=ONE)])
        self.check(("each_field", ("a", "b"), FALSE), [fields(a=NULL, b=NULL)], [value])
        self.check(("each_field", ("x",), FALSE), [EMPTY_OBJECT, fields(x=ONE)], [value])
        self.check(("each_field", ("x",), TRUE), [EMPTY_OBJECT, fields(x=ONE), value], [])

    def test_each_field_at_other_kinds(self):
        for formula in (TRUE, FALSE, INT):
            self.check(("each_field", (), formula), [], self.kinds_except("object"))
            self.check(("each_field", ("a",), formula), [], self.kinds_except("object"))

    def test_each_within_each(self):
        formula = ("each_item", 0, ("each_field", ("a",), ("each_item", 1, INT)))
        self.check(formula, [("list", (EMPTY_OBJECT, fields(a=NULL, b=("list", (NULL, ONE)))))], [
            ("list", (EMPTY_OBJECT, fields(b=("list", (ONE, NULL))))), ("list", (fields(b=NULL),)), ints(1),
        ])

    def test_what_is_said_after_a_place_is_about_the_whole_value(self):
        formula = ("and", (("at", ("a",), INT), ("kind", "object"), ("each_field", ("a",), TEXT), ("at", ("b",), TEXT)))
        self.check(formula, [fields(a=ONE, b=("text", ""))], [fields(a=ONE), fields(a=ONE, b=TWO), fields(b=ONE)])


class Held(unittest.TestCase):
    def check(self, formula, value, held, expected):
        with self.subTest(formula=formula, value=value, held=held):
            self.assertIs(holds_with(formula, value, held), expected)
            self.assertIs(holds_with(("not", formula), value, held), not expected)

    def test_a_held_part_asks_the_held_value(self):
        for value in ONE_OF_EACH:
            self.check(("held", INT), value, ONE, True)
            self.check(("held", INT), value, NULL, False)
            self.check(("held", ("at", ("a",), TEXT)), value, fields(a=("text", "")), True)
            self.check(("held", TRUE), value, EMPTY_LIST, True)
            self.check(("held", FALSE), value, EMPTY_LIST, False)

    def test_what_is_not_in_a_held_asks_the_value(self):
        for held in ONE_OF_EACH:
            self.check(INT, ONE, held, True)
            self.check(INT, NULL, held, False)
            self.check(("at", ("a",), INT), fields(a=ONE), held, True)
        self.check(INT, ONE, None, True)
        self.check(("each_item", 0, INT), ints(1, 2), None, True)

    def test_both_beside_each_other(self):
        formula = ("and", (("held", INT), TEXT))
        self.check(formula, ("text", ""), ONE, True)
        self.check(formula, ONE, ("text", ""), False)
        self.check(formula, ("text", ""), ("text", ""), False)
        self.check(("and", (TEXT, ("held", INT), TEXT)), ("text", ""), ONE, True)
        self.check(("or", (("held", INT), INT)), ONE, NULL, True)
        self.check(("or", (("held", INT), INT)), NULL, ONE, True)
        self.check(("or", (("held", INT), INT)), NULL, NULL, False)
        self.check(("not", ("held", INT)), ONE, NULL, True)
        self.check(("and", (("not", ("held", ("not", INT))), ("not", ("held", TEXT)))), NULL, ONE, True)

    def test_formulas_within_a_held(self):
        held = fields(a=ints(1, 2), b=NULL)
        self.check(("held", ("at", ("a",), ("each_item", 0, INT))), NULL, held, True)
        self.check(("held", ("each_field", ("a",), INT)), NULL, held, False)
        self.check(("held", ("and", (("at", ("b",), ("kind", "null")), ("not", INT)))), ONE, held, True)


class Nested(unittest.TestCase):
    def check(self, formula, value, expected):
        # No subTest: a formula that is nested this deep cannot be shown.
        self.assertTrue(holds(formula, value) is expected)
        self.assertTrue(holds_with(formula, value, NULL) is expected)
        self.assertTrue(holds_with(("held", formula), NULL, value) is expected)

    def test_many_nots_ands_and_ors(self):
        for count in (149, 150, 298, 299, 2000):
            formula, other, whole = INT, INT, INT
            for _ in range(count):
                formula, other, whole = ("not", formula), ("and", (TRUE, other)), ("or", (FALSE, whole))
            self.check(formula, ONE, count % 2 == 0)
            self.check(formula, NULL, count % 2 == 1)
            for wrapped in (other, whole):
                self.assertEqual(nesting_of(wrapped), count + 1)
                self.check(wrapped, ONE, True)
                self.check(wrapped, NULL, False)

    def test_nots_ands_and_ors_mixed(self):
        for words in (150, 297):
            formula = ("int_from", 2)
            for number in range(words):
                formula = (("not", formula), ("and", (formula, TRUE)), ("or", (formula, FALSE)))[number % 3]
            nots = (words + 2) // 3
            self.check(formula, TWO, nots % 2 == 0)
            self.check(formula, ONE, nots % 2 == 1)

    def test_places_within_places(self):
        value, formula = ONE, INT
        for _ in range(19):
            value = ("list", (NULL, fields(a=value)))
            formula = ("each_item", 1, ("each_field", ("b",), ("at", (), ("not", ("not", ("at", (), formula))))))
            formula = ("and", (formula, ("at", (1,), TRUE), ("or", (FALSE, ("items_from", 2)))))
        self.assertEqual(nesting_of(formula), 19 * 7 + 1)
        self.check(formula, value, True)
        self.check(("not", formula), value, False)
        self.check(formula, ("list", (NULL, value)), False)

    def test_many_parts(self):
        parts = tuple(("text_is", str(number)) for number in range(3000))
        self.check(("or", parts), ("text", "2999"), True)
        self.check(("or", parts), ("text", "3000"), False)
        self.check(("and", tuple(("not", part) for part in parts)), ("text", "3000"), True)
        self.check(("and", tuple(("not", part) for part in parts)), ("text", "2999"), False)


class AllFormulas(unittest.TestCase):
    def test_against_the_model(self):
        rng = random.Random(31)
        words = {}
        for _ in range(8000):
            value, formula = made_value(rng, 4), made_formula(rng, rng.randrange(1, 5))
            answer = holds(formula, value)
            self.assertIs(answer, model(formula, value, None), (formula, value))
            words.setdefault(formula[0], set()).add(answer)
        self.assertEqual(len(words), 14)
        self.assertEqual(sorted(word for word in words if len(words[word]) < 2), ["false", "true"])

    def test_with_held_parts_against_the_model(self):
        rng = random.Random(32)
        differs = 0
        for _ in range(5000):
            value, held = made_value(rng, 3), made_value(rng, 3)
            formula = made_formula(rng, 4, PLAIN_WORDS + ("held",) * 3)
            answer = holds_with(formula, value, held)
            self.assertIs(answer, model(formula, value, held), (formula, value, held))
            differs += answer is not holds_with(formula, value, value)
        self.assertGreater(differs, 100)

    def test_arguments_are_as_before_and_equal_inputs_give_equal_answers(self):
        rng = random.Random(33)
        for _ in range(500):
            value, held = made_value(rng, 4), made_value(rng, 4)
            formula = made_formula(rng, 4, PLAIN_WORDS + ("held",))
            before = repr((formula, value, held))
            answer = holds_with(formula, value, held)
            self.assertIs(answer, holds_with(remade(formula), remade(value), remade(held)))
            self.assertEqual(repr((formula, value, held)), before)


if __name__ == "__main__":
    unittest.main()
