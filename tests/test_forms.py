"""Schemas and patches as values, and back (points 23 and 24)."""

import random
import unittest

from patchkept import forms
from patchkept.errors import InvalidForm, PatchkeptError
from patchkept.forms import patch_from_value, patch_to_value, schema_from_value, schema_to_value
from patchkept.reading import read_value
from patchkept.values import make_object, size_of
from patchkept.writing import write_value
from tests.helpers import (
    NULL, check_interface, fields, made_patch, made_schema, made_value, remade, steps_in, texts, variants, whens_in,
)

ANY, NEVER = ("any",), ("never",)
BIG = 10 ** 70
TRUE = ("bool", True)
ODD_STRINGS = ["%", "a%b", "\n", "\t", "a" + chr(127), chr(0), chr(233), "a" + chr(8364)]
LONGEST = ("a", 0, "", 9, "b c", 3)


def text(string):
    return ("text", string)


def number(count):
    return ("int", count)


def row(*parts):
    return ("list", parts)


def of_size(size):
    return ("list", (NULL,) * (size - 1))


class Wrong(Exception):
    pass


def need(is_right):
    if not is_right:
        raise Wrong


def string_in(value):
    need(value[0] == "text" and all(32 <= ord(sign) <= 126 and sign != "%" for sign in value[1]))
    return value[1]


def value_in(value):
    """The value itself, if its strings are right."""
    if value[0] == "list":
        return ("list", tuple(value_in(item) for item in value[1]))
    if value[0] == "object":
        return ("object", tuple((string_in(("text", name)), value_in(part)) for name, part in value[1]))
    return ("text", string_in(value)) if value[0] == "text" else value


def bound_in(value, low=None, high=None, may_lack=True):
    if value == NULL and may_lack:
        return None
    need(value[0] == "int" and (low is None or low <= value[1] <= high))
    return value[1]


def path_in(value, may_append=False):
    need(value[0] == "list" and len(value[1]) <= 6)
    path = tuple(string_in(part) if part[0] == "text" else bound_in(part, -1, 9, False) for part in value[1])
    need(-1 not in (path[:-1] if may_append else path))
    return path


def schemas_in(value):
    need(value[0] == "list")
    return tuple(schema_in(part) for part in value[1])


def field_in(value):
    match value:
        case ("list", (name, inner, ("bool", required))):
            return (string_in(name), schema_in(inner), required)
    raise Wrong


def schema_in(value):
    """The schema that becomes the value, as another program may find it; Wrong if there is none."""
    match value:
        case ("list", (("text", "any" | "never" | "null" | "bool" as word),)):
            return (word,)
        case ("list", (("text", "int"), low, high)):
            return ("int", bound_in(low), bound_in(high))
        case ("list", (("text", "text"), low, high)):
            return ("text", bound_in(low, 0, 30, False), bound_in(high, 0, 30))
        case ("list", (("text", "const"), inner)):
            return ("const", value_in(inner))
        case ("list", (("text", "list"), inner, low, high)):
            return ("list", schema_in(inner), bound_in(low, 0, 30, False), bound_in(high, 0, 30))
        case ("list", (("text", "tuple" | "either" | "all" as word), inner)):
            return (word, schemas_in(inner))
        case ("list", (("text", "not"), inner)):
            return ("not", schema_in(inner))
        case ("list", (("text", "object"), ("list", rows), others)):
            found = tuple(field_in(part) for part in rows)
            need(len({name for name, _, _ in found}) == len(found))
            return ("object", found, schema_in(others))
    raise Wrong


def step_in(value):
    match value:
        case ("list", (("text", "test" | "replace" as word), path, inner)):
            return (word, path_in(path), value_in(inner))
        case ("list", (("text", "add"), path, inner)):
            return ("add", path_in(path, True), value_in(inner))
        case ("list", (("text", "remove"), path)):
            return ("remove", path_in(path))
        case ("list", (("text", "move" | "copy" as word), source, path)):
            return (word, path_in(source), path_in(path, True))
        case ("list", (("text", "increase"), path, ("int", amount))):
            return ("increase", path_in(path), amount)
        case ("list", (("text", "each"), path, inner)):
            return ("each", path_in(path), patch_in(inner))
        case ("list", (("text", "when"), path, schema, inner, other)):
            return ("when", path_in(path), schema_in(schema), patch_in(inner), patch_in(other))
    raise Wrong


def patch_in(value):
    need(value[0] == "list")
    return tuple(step_in(part) for part in value[1])


def parts_of_schema(schema):
    match schema:
        case ("list" | "not", inner, *_):
            return [inner]
        case ("tuple" | "either" | "all", inner):
            return list(inner)
        case ("object", rows, others):
            return [inner for _, inner, _ in rows] + [others]
    return []


def measures(schema):
    """How many schemas it contains, how deep it is, and the size of its consts."""
    inner = [measures(part) for part in parts_of_schema(schema)]
    const = size_of(schema[1]) if schema[0] == "const" else 0
    return (1 + sum(part[0] for part in inner), 1 + max([part[1] for part in inner], default=0),
            const + sum(part[2] for part in inner))


def steps_of(patch):
    found = []
    for step in patch:
        found.append(step)
        for part in step[2 if step[0] == "each" else 3:] if step[0] in ("each", "when") else ():
            found += steps_of(part)
    return found


def depth_of_patch(patch):
    inner = [part for step in patch if step[0] in ("each", "when") for part in step[2 if step[0] == "each" else 3:]]
    return 1 + max([depth_of_patch(part) for part in inner], default=0)


def schema_fits(schema):
    many, deep, size = measures(schema)
    return many <= 30 and deep <= 6 and size <= 20


def patch_fits(patch):
    schemas = [measures(step[2]) for step in steps_of(patch) if step[0] == "when"]
    values = [size_of(step[2]) for step in steps_of(patch) if step[0] in ("test", "add", "replace")]
    return (steps_in(patch) <= 8 and whens_in(patch) <= 3 and depth_of_patch(patch) <= 3 and sum(values) <= 20
            and sum(part[0] for part in schemas) <= 30 and max([part[1] for part in schemas], default=0) <= 6
            and sum(part[2] for part in schemas) <= 20)


class Forms(unittest.TestCase):
    def check_schema(self, schema, value):
        self.assertEqual(schema_to_value(schema), value)
        self.assertEqual(schema_from_value(value), schema)

    def check_patch(self, patch, value):
        self.assertEqual(patch_to_value(patch), value)
        self.assertEqual(patch_from_value(value), patch)

    def keeps(self, schema):
        self.assertEqual(schema_from_value(schema_to_value(schema)), schema)

    def refuses(self, schema):
        with self.assertRaises(InvalidForm, msg=schema):
            schema_from_value(schema_to_value(schema))

    def keeps_patch(self, patch):
        self.assertEqual(patch_from_value(patch_to_value(patch)), patch)

    def refuses_patch(self, patch):
        with self.assertRaises(InvalidForm, msg=patch):
            patch_from_value(patch_to_value(patch))

    def refuses_values(self, read, values):
        for value in values:
            with self.assertRaises(InvalidForm, msg=value):
                read(value)


class Interface(unittest.TestCase):
    def test_names_and_arguments(self):
        listed = {"schema_to_value": ["schema"], "patch_to_value": ["patch"]}
        check_interface(self, forms, {**listed, "schema_from_value": ["value"], "patch_from_value": ["value"]})

    def test_the_error(self):
        with self.assertRaises(PatchkeptError):
            schema_from_value(NULL)
        with self.assertRaises(ValueError):
            patch_from_value(NULL)


class SchemasAsValues(Forms):
    def test_example_of_the_document(self):
        value = ("list", (("text", "list"), ("list", (("text", "const"), ("int", 3))), ("int", 0), ("null",)))
        self.check_schema(("list", ("const", ("int", 3)), 0, None), value)

    def test_each_word(self):
        plain_any = row(text("any"))
        for word in ("any", "never", "null", "bool"):
            self.check_schema((word,), row(text(word)))
        self.check_schema(("int", -3, BIG), row(text("int"), number(-3), number(BIG)))
        self.check_schema(("int", None, None), row(text("int"), NULL, NULL))
        self.check_schema(("int", 5, 4), row(text("int"), number(5), number(4)))
        self.check_schema(("text", 0, None), row(text("text"), number(0), NULL))
        self.check_schema(("text", 30, 30), row(text("text"), number(30), number(30)))
        for value in (NULL, TRUE, number(3), text("any"), row(), row(text("any")), fields(a=row(NULL))):
            self.check_schema(("const", value), row(text("const"), value))
        self.check_schema(("list", ANY, 30, 0), row(text("list"), plain_any, number(30), number(0)))
        for word in ("tuple", "either", "all"):
            self.check_schema((word, ()), row(text(word), row()))
            self.check_schema((word, (ANY, ("null",), ANY)), row(text(word), row(plain_any, row(text("null")), plain_any)))
        self.check_schema(("not", ANY), row(text("not"), plain_any))
        self.check_schema(("object", (), NEVER), row(text("object"), row(), row(text("never"))))
        rows = row(row(text("b"), plain_any, ("bool", True)), row(text("a"), row(text("null")), ("bool", False)))
        self.check_schema(("object", (("b", ANY, True), ("a", ("null",), False)), ANY), row(text("object"), rows, plain_any))

    def test_made_up_schemas_through_their_texts(self):
        rng = random.Random(231)
        for _ in range(400):
            schema = made_schema(rng, 4)
            kept = remade(schema)
            value = schema_to_value(schema)
            self.assertEqual(schema_in(value), schema)
            self.assertEqual((schema, value), (kept, schema_to_value(kept)))
            if schema_fits(schema):
                self.assertEqual(schema_from_value(read_value(write_value(value))), schema)
                self.assertEqual(value, remade(value))
            else:
                self.refuses(schema)


class PatchesAsValues(Forms):
    def test_each_word(self):
        path = row(text("a"), number(0))
        self.check_patch((), row())
        for word in ("test", "add", "replace"):
            self.check_patch(((word, ("a", 0), texts("x")),), row(row(text(word), path, texts("x"))))
        self.check_patch((("remove", ("a", 0)),), row(row(text("remove"), path)))
        self.check_patch((("remove", ()),), row(row(text("remove"), row())))
        for word in ("move", "copy"):
            self.check_patch(((word, ("a", 0), ("b", -1)),), row(row(text(word), path, row(text("b"), number(-1)))))
        for amount in (0, 1, -1, BIG, -BIG):
            self.check_patch((("increase", (), amount),), row(row(text("increase"), row(), number(amount))))
        self.check_patch((("each", ("a", 0), (("remove", (1,)),)),), row(row(text("each"), path, row(row(text("remove"), row(number(1)))))))
        removal = row(text("remove"), row())
        self.check_patch((("when", ("a", 0), ("text", 1, None), (("remove", ()),) * 2, ()),),
                         row(row(text("when"), path, row(text("text"), number(1), NULL), row(removal, removal), row())))
        self.check_patch((("remove", ()), ("add", (-1,), NULL)), row(removal, row(text("add"), row(number(-1)), NULL)))

    def test_longest_paths(self):
        appended = LONGEST[:5] + (-1,)
        for path in (LONGEST, ("",) * 6, (9,) * 6, ()):
            self.keeps_patch((("add", path, NULL), ("move", path, LONGEST), ("copy", LONGEST, path)))
            self.keeps_patch((("test", path, NULL), ("replace", path, NULL), ("remove", path), ("increase", path, 1)))
            self.keeps_patch((("each", path, ()), ("when", path, ANY, (), ())))
        self.keeps_patch((("add", appended, NULL), ("move", (), appended), ("copy", LONGEST, appended), ("add", (-1,), NULL)))

    def test_made_up_patches_through_their_texts(self):
        rng = random.Random(232)
        for _ in range(500):
            patch = made_patch(rng, rng.randrange(1, 5), made_value(rng, 3))
            kept = remade(patch)
            value = patch_to_value(patch)
            self.assertEqual(patch_in(value), patch)
            self.assertEqual((patch, value), (kept, patch_to_value(kept)))
            if patch_fits(patch):
                self.assertEqual(patch_from_value(read_value(write_value(value))), patch)
            else:
                self.refuses_patch(patch)


class NoSchemas(Forms):
    WORDS = {"any": 0, "never": 0, "null": 0, "bool": 0, "int": 2, "text": 2, "const": 1, "list": 3, "tuple": 1, "object": 2,
             "either": 1, "all": 1, "not": 1}

    def test_what_is_no_form(self):
        leaves = [NULL, TRUE, number(0), text("any"), text(""), make_object([]), fields(any=NULL), row()]
        leaves += [row(leaf) for leaf in (NULL, TRUE, number(0), row(text("any")), text("anything"), text(""), text("Any"))]
        leaves += [row(text(word)) for word in ("remove", "each", "object", "list", "true", "any ", " any", "ANY", "%")]
        self.refuses_values(schema_from_value, leaves)

    def test_too_few_and_too_many_parts(self):
        good = {"int": (NULL, NULL), "text": (number(0), NULL), "const": (NULL,), "not": (row(text("any")),),
                "list": (row(text("any")), number(0), NULL), "object": (row(), row(text("any")))}
        for word, many in self.WORDS.items():
            parts = good.get(word, (row(),) * many)
            self.assertEqual(schema_to_value(schema_from_value(row(text(word), *parts))), row(text(word), *parts))
            for more in (NULL, number(0), row(), row(text("any")), text("any")):
                self.refuses_values(schema_from_value, [row(text(word), *parts, more), row(more, text(word), *parts)])
            for at in range(many):
                self.refuses_values(schema_from_value, [row(text(word), *parts[:at], *parts[at + 1:])])

    def test_parts_of_another_kind(self):
        others = [TRUE, ("bool", False), text("0"), text(""), row(), row(number(0)), make_object([])]
        for other in others:
            for low, high in ((other, NULL), (NULL, other), (number(0), other), (other, number(0))):
                self.refuses_values(schema_from_value, [row(text("int"), low, high), row(text("text"), low, high)])
                self.refuses_values(schema_from_value, [row(text("list"), row(text("any")), low, high)])
            self.refuses_values(schema_from_value, [row(text("not"), other), row(text("list"), other, number(0), NULL)])
            self.refuses_values(schema_from_value, [row(text("object"), row(), other)])
            for word in ("tuple", "either", "all"):
                self.refuses_values(schema_from_value, [row(text(word), row(other)), row(text(word), row(row(text("any")), other))])
                if other != row():
                    self.refuses_values(schema_from_value, [row(text(word), other), row(text("object"), other, row(text("any")))])
        self.refuses_values(schema_from_value, [row(text("int"), ("int", True), NULL), row(text("text"), ("int", False), NULL)])

    def test_bounds_of_text_and_list(self):
        for good in (0, 1, 29, 30):
            self.keeps(("text", good, None))
            self.keeps(("list", ANY, good, None))
            self.keeps(("text", 0, good))
            self.keeps(("list", ANY, 30, good))
        for bad in (-1, 31, 32, BIG, -BIG):
            for schema in (("text", bad, None), ("text", 0, bad), ("list", ANY, bad, 30), ("list", ANY, 0, bad)):
                self.refuses(schema)
            self.keeps(("int", bad, bad))
        self.refuses(("text", None, 3))
        self.refuses(("list", ANY, None, None))

    def test_rows_of_objects(self):
        plain_any = row(text("any"))
        good = (text("a"), plain_any, TRUE)
        rows = [row(*good[:2]), row(*good, NULL), row(good[1], good[0], good[2]), row(NULL, *good[1:]), row(number(0), *good[1:]),
                row(good[0], NULL, TRUE), row(*good[:2], NULL), row(*good[:2], number(1)), row(*good[:2], text("true")), NULL, row(),
                text("a"), make_object([("a", plain_any)]), row(good[0], TRUE, plain_any)]
        self.refuses_values(schema_from_value, [row(text("object"), row(part), plain_any) for part in rows])
        self.refuses_values(schema_from_value, [row(text("object"), row(row(*good), part), plain_any) for part in rows])

    def test_names_listed_twice(self):
        for names in (("a", "a"), ("a", "b", "a"), ("", "")):
            self.refuses(("object", tuple((name, ANY, True) for name in names), ANY))
        self.refuses(("object", (("a", ANY, True), ("a", NEVER, False)), ANY))
        self.keeps(("object", (("a", ("object", (("a", ANY, True),), ANY), True), ("b", ANY, True)), ANY))

    def test_how_many_and_how_deep(self):
        for word in ("tuple", "either", "all"):
            self.keeps((word, (ANY,) * 29))
            self.refuses((word, (ANY,) * 30))
        names = tuple((f"n{index}", ANY, False) for index in range(29))
        self.keeps(("object", names[:28], ANY))
        self.refuses(("object", names, ANY))
        self.keeps(("all", (("tuple", (ANY,) * 13), ("tuple", (ANY,) * 14))))
        self.refuses(("all", (("tuple", (ANY,) * 14), ("tuple", (ANY,) * 14))))
        wraps = [lambda inner: ("not", inner), lambda inner: ("list", inner, 0, None), lambda inner: ("tuple", (ANY, inner)),
                 lambda inner: ("object", (("a", inner, True),), ANY), lambda inner: ("object", (), inner),
                 lambda inner: ("either", (inner,)), lambda inner: ("all", (inner, ANY))]
        for wrap in wraps:
            for innermost in (ANY, ("tuple", ()), ("const", NULL), ("object", (), ANY)):
                schema = innermost
                for _ in range(4 if innermost[0] == "object" else 5):
                    schema = wrap(schema)
                self.keeps(schema)
                self.refuses(wrap(schema))
                self.refuses(wrap(wrap(wrap(schema))))

    def test_sizes_of_consts(self):
        deep = NULL
        for _ in range(19):
            deep = row(deep)
        for value in (of_size(20), deep, make_object([(f"n{index}", NULL) for index in range(19)])):
            self.keeps(("const", value))
            self.refuses(("const", row(value)))
            self.refuses(("all", (("const", value), ("const", NULL))))
        self.keeps(("all", (("const", of_size(12)), ("not", ("const", of_size(8))))))
        self.refuses(("all", (("const", of_size(12)), ("not", ("const", of_size(9))))))
        self.refuses(("all", (("const", of_size(13)), ("list", ("const", of_size(8)), 0, None))))
        self.refuses(("object", (("a", ("const", of_size(12)), True),), ("const", of_size(9))))

    def test_strings(self):
        for odd in ODD_STRINGS:
            self.refuses(("object", ((odd, ANY, True),), ANY))
            for value in (text(odd), texts("a", odd), make_object([(odd, NULL)]), fields(a=row(text(odd))), row(make_object([("a", NULL), (odd, NULL)]))):
                self.refuses(("const", value))
                self.refuses(("not", ("const", value)))
            self.refuses_values(schema_from_value, [row(text(odd)), row(text("any" + odd))])
        plain = "".join(chr(code) for code in range(32, 127) if chr(code) != "%")
        self.keeps(("object", ((plain, ("const", make_object([(plain, text(plain))])), True), ("", ANY, False)), ANY))

    def test_changes_at_one_place(self):
        rng = random.Random(233)
        bases = [("object", (("a", ("int", None, 3), True), ("b", ("text", 0, 30), False)), ("not", ("list", ANY, 1, None))),
                 ("either", (("const", fields(a=texts("x"))), ("tuple", (NEVER, ("null",))), ("all", ()), ("bool",)))]
        accepted = 0
        for schema in bases + [made_schema(rng, 3) for _ in range(25)]:
            for other in variants(schema_to_value(schema)):
                try:
                    expected = schema_in(other)
                except Wrong:
                    self.refuses_values(schema_from_value, [other])
                    continue
                if schema_fits(expected):
                    accepted += 1
                    self.assertEqual(schema_from_value(other), expected)
                else:
                    self.refuses_values(schema_from_value, [other])
        self.assertGreater(accepted, 50)


class NoPatches(Forms):
    WORDS = {"test": 2, "add": 2, "remove": 1, "replace": 2, "move": 2, "copy": 2, "increase": 2, "each": 2, "when": 4}

    def refuses_steps(self, steps):
        for step in steps:
            self.refuses_values(patch_from_value, [row(step), row(row(text("remove"), row()), step)])
            self.refuses_values(patch_from_value, [row(row(text("each"), row(), row(step)))])
            self.refuses_values(patch_from_value, [row(row(text("when"), row(), row(text("any")), row(), row(step)))])

    def test_what_is_no_form(self):
        others = [NULL, TRUE, number(0), text("remove"), make_object([]), row(text("remove"), row()), fields(remove=row())]
        self.refuses_values(patch_from_value, others)
        steps = [NULL, TRUE, number(0), text("remove"), make_object([]), row(), row(NULL), row(row()), row(text("")), row(text("any"))]
        steps += [row(text(word), row(), row()) for word in ("", "check", "load", "put", "swap", "look", "take", "Add", "ad", "not")]
        self.refuses_steps(steps)

    def test_too_few_and_too_many_parts(self):
        good = {"increase": (row(), number(1)), "when": (row(), row(text("any")), row(), row())}
        for word, many in self.WORDS.items():
            parts = good.get(word, (row(),) * many)
            self.assertEqual(len(patch_from_value(row(row(text(word), *parts)))), 1)
            for more in (NULL, number(0), row(), text("a")):
                self.refuses_steps([row(text(word), *parts, more), row(more, text(word), *parts)])
            for at in range(many):
                self.refuses_steps([row(text(word), *parts[:at], *parts[at + 1:])])

    def test_parts_of_another_kind(self):
        plain_any, others = row(text("any")), [NULL, TRUE, number(0), text("a"), make_object([]), fields(a=NULL)]
        for other in others:
            steps = [row(text(word), other, NULL) for word in ("test", "add", "replace")]
            steps += [row(text("move"), other, row()), row(text("move"), row(), other), row(text("copy"), other, row())]
            steps += [row(text("copy"), row(), other), row(text("remove"), other), row(text("increase"), other, number(1))]
            steps += [row(text("each"), other, row()), row(text("each"), row(), other), row(text("when"), other, plain_any, row(), row())]
            steps += [row(text("when"), row(), other, row(), row()), row(text("when"), row(), plain_any, other, row())]
            steps += [row(text("when"), row(), plain_any, row(), other), row(text("when"), row(), row(), row(), row())]
            steps += [row(text("remove"), row(part)) for part in (NULL, TRUE, row(), row(text("a")), make_object([]))]
            self.refuses_steps(steps)
            if other != number(0):
                self.refuses_steps([row(text("increase"), row(), other)])
        self.refuses_steps([row(text("increase"), row(), ("int", True)), row(text("remove"), row(("int", False)))])

    def test_paths(self):
        for path in (LONGEST + ("a",), LONGEST + (0,), (10,), (0, 10), (-1, 0), ("a", -1, "b"), (-2,), (-1, -1), ("a",) * 7, (BIG,)):
            for step in (("test", path, NULL), ("add", path, NULL), ("remove", path), ("replace", path, NULL), ("move", path, ()),
                         ("move", (), path), ("copy", path, ()), ("copy", (), path), ("increase", path, 1), ("each", path, ()),
                         ("when", path, ANY, (), ())):
                self.refuses_patch((step,))
                self.refuses_patch((("each", (), (step,)),))
        for path in ((-1,), ("a", -1), LONGEST[:5] + (-1,)):
            for step in (("test", path, NULL), ("remove", path), ("replace", path, NULL), ("move", path, ()), ("copy", path, ()),
                         ("increase", path, 1), ("each", path, ()), ("when", path, ANY, (), ())):
                self.refuses_patch((step,))
            self.keeps_patch((("add", path, NULL), ("move", (), path), ("copy", (), path)))
        self.refuses_patch((("add", LONGEST + (-1,), NULL),))

    def test_how_many_steps(self):
        removal = ("remove", ())
        self.keeps_patch((removal,) * 8)
        self.refuses_patch((removal,) * 9)
        self.keeps_patch((("each", (), (removal,) * 7),))
        self.refuses_patch((("each", (), (removal,) * 8),))
        self.keeps_patch((("when", (), ANY, (removal,) * 3, (removal,) * 3), removal))
        self.refuses_patch((("when", (), ANY, (removal,) * 3, (removal,) * 4), removal))
        self.refuses_patch((("each", (), (("each", (), (removal,) * 6),)), removal))
        case = ("when", (), ANY, (), ())
        self.keeps_patch((case,) * 3)
        self.refuses_patch((case,) * 4)
        self.keeps_patch((("when", (), ANY, (case,), (case,)), removal))
        self.refuses_patch((("when", (), ANY, (case,), (case,)), ("each", (), (case,))))

    def test_how_deep(self):
        for innermost in ((), (("remove", ()),)):
            for words in (("each", "each"), ("each", "when"), ("when", "each"), ("when", "other"), ("other", "other")):
                patch = innermost
                for word in words:
                    parts = {"each": (("each", (), patch),), "when": (("when", (), ANY, patch, ()),)}
                    patch = parts.get(word, (("when", (), ANY, (), patch),))
                self.keeps_patch(patch)
                self.refuses_patch((("each", (), patch),))
                self.refuses_patch((("remove", ()), ("when", (), ANY, (), patch)))

    def test_sizes_of_values(self):
        for word in ("test", "add", "replace"):
            self.keeps_patch(((word, (), of_size(20)),))
            self.refuses_patch(((word, (), of_size(21)),))
            for other in ("test", "add", "replace"):
                self.keeps_patch(((word, (), of_size(13)), ("each", (), ((other, (), of_size(7)),))))
                self.refuses_patch(((word, (), of_size(13)), ("each", (), ((other, (), of_size(8)),))))
                self.refuses_patch((("when", (), ANY, ((word, (), of_size(13)),), ((other, (), of_size(8)),)),))
        # The consts of schemas are counted by themselves.
        self.keeps_patch((("add", (), of_size(20)), ("when", (), ("const", of_size(20)), (), ())))

    def test_schemas_of_whens(self):
        def cases(one, two):
            return [(("when", (), one, (), ()), ("when", (), two, (), ())), (("when", (), one, (("when", (), two, (), ()),), ()),),
                    (("each", (), (("when", (), one, (), ()), ("when", (), two, (), ()))),)]
        for patch in cases(("all", (ANY,) * 14), ("tuple", (ANY,) * 14)) + cases(("const", of_size(12)), ("const", of_size(8))):
            self.keeps_patch(patch)
        for patch in cases(("all", (ANY,) * 14), ("tuple", (ANY,) * 15)) + cases(("const", of_size(12)), ("const", of_size(9))):
            self.refuses_patch(patch)
        self.keeps_patch((("when", (), ("all", (ANY,) * 29), (), ()),))
        self.refuses_patch((("when", (), ("all", (ANY,) * 30), (), ()),))
        self.refuses_patch((("when", (), ("const", of_size(21)), (), ()),))
        deep = ANY
        for _ in range(5):
            deep = ("not", deep)
        for patch in cases(deep, deep):
            self.keeps_patch(patch)
        for patch in cases(deep, ("not", deep)) + cases(("not", deep), ANY):
            self.refuses_patch(patch)
        self.refuses_patch((("when", (), ("text", 0, 31), (), ()),))
        self.refuses_patch((("when", (), ("object", (("a", ANY, True), ("a", ANY, True)), ANY), (), ()),))

    def test_strings(self):
        for odd in ODD_STRINGS:
            for step in (("remove", (odd,)), ("move", ("a",), ("a", odd)), ("copy", (odd, "a"), ()), ("add", (odd, -1), NULL),
                         ("add", (), text(odd)), ("test", (), make_object([(odd, NULL)])), ("replace", (), texts("a", odd)),
                         ("when", (odd,), ANY, (), ()), ("when", (), ("const", text(odd)), (), ()), ("each", (odd,), ()),
                         ("when", (), ("object", ((odd, ANY, True),), ANY), (), ()), ("increase", (odd,), 1)):
                self.refuses_patch((step,))
                self.refuses_patch((("each", (), (step,)),))
            self.refuses_values(patch_from_value, [row(row(text(odd), row())), row(row(text("remove" + odd), row()))])

    def test_changes_at_one_place(self):
        rng = random.Random(234)
        bases = [(("add", ("a", -1), text("x")), ("when", ("b", 0), ("int", 0, None), (("increase", (), 2),), ())),
                 (("each", (), (("move", ("a",), (9,)), ("copy", (), ("b",)))), ("test", (3,), NULL), ("remove", ("a", 1)))]
        accepted = 0
        for patch in bases + [made_patch(rng, 2, made_value(rng, 3)) for _ in range(25)]:
            for other in variants(patch_to_value(patch)):
                try:
                    expected = patch_in(other)
                except Wrong:
                    self.refuses_values(patch_from_value, [other])
                    continue
                if patch_fits(expected):
                    accepted += 1
                    self.assertEqual(patch_from_value(other), expected)
                else:
                    self.refuses_values(patch_from_value, [other])
        self.assertGreater(accepted, 50)


if __name__ == "__main__":
    unittest.main()
