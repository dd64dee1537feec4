"""Patches, their steps and the primitives of the steps (points 12 to 14)."""

import copy
import itertools
import random
import unittest

from patchkept import patches
from patchkept.patches import apply, primitives_of, run_primitive
from patchkept.places import lookup, put_at, replace_at, take_at
from patchkept.schemas import is_valid
from tests.helpers import (
    NULL, check_interface, consists_of_tuples, fields, from_plain, ints, leads, made_patch, made_path,
    made_step, made_value, remade, to_plain, variants,
)

ANY = ("any",)
ONE_OR_LESS = ("int", None, 1)
YES = ("bool", True)
ONE, TWO, THREE = ("int", 1), ("int", 2), ("int", 3)
NEW, HELD = ("text", "new"), ("text", "held")
EMPTY_LIST, EMPTY_OBJECT = ("list", ()), ("object", ())
LEAVES = [NULL, YES, ("bool", False), ("int", 5), ("text", "ab"), ("text", "")]
LIST = ("list", (ONE, TWO, THREE))
OBJECT = ("object", (("a", ONE), ("b", TWO), ("l", LIST)))
DEEP = ("object", (("l", ("list", (OBJECT, EMPTY_LIST, NEW))), ("o", ("object", (("i", ("int", 7)), ("n", NULL))))))
VALUES = LEAVES + [EMPTY_LIST, EMPTY_OBJECT, LIST, OBJECT, DEEP]
ADD_ONE = (("increase", (), 1),)
NO_PATCH = ()
FAILING = (("remove", ()),)
STEPS = [
    ("test", ("a", 0), NEW), ("add", ("a", -1), NEW), ("remove", ("a", 0)), ("replace", ("a",), NEW),
    ("move", ("a",), ("b", -1)), ("copy", ("a",), ("b", 0)), ("increase", ("a",), -2), ("each", ("a",), ADD_ONE),
    ("when", ("a",), ("int", 0, None), ADD_ONE, FAILING),
]


# The model knows no primitives: it changes a value in the plain form, which hangs in a list of one item, so
# that the empty path needs nothing of its own.

class Fails(Exception):
    pass


def find(plain, path):
    for token in path:
        if not leads(plain, token):
            raise Fails
        plain = plain[token]
    return plain


def insert(holder, path, plain):
    parent = find(holder, path[:-1])
    token = path[-1]
    if len(path) == 1:
        holder[0] = plain
    elif isinstance(parent, dict) and isinstance(token, str):
        parent[token] = plain
    elif isinstance(parent, list) and not isinstance(token, str) and token <= len(parent):
        parent.insert(len(parent) if token == -1 else token, plain)
    else:
        raise Fails


def drop(holder, path):
    if len(path) == 1:
        raise Fails
    found = find(holder, path)
    del find(holder, path[:-1])[path[-1]]
    return found


def model_each(parent, patch):
    if isinstance(parent, tuple):
        raise Fails
    for token in list(parent) if isinstance(parent, dict) else range(len(parent)):
        parent[token] = model_patch(patch, parent[token])


def is_there(holder, path, schema):
    try:
        return is_valid(schema, from_plain(find(holder, path)))
    except Fails:
        return False


def model_step(step, holder):
    path = (0,) + step[1]
    match step:
        case ("test", _, value):
            if find(holder, path) != to_plain(value):
                raise Fails
        case ("add", _, value):
            insert(holder, path, to_plain(value))
        case ("remove", _):
            drop(holder, path)
        case ("replace", _, value):
            find(holder, path)
            find(holder, path[:-1])[path[-1]] = to_plain(value)
        case ("move", _, target):
            insert(holder, (0,) + target, drop(holder, path))
        case ("copy", _, target):
            insert(holder, (0,) + target, copy.deepcopy(find(holder, path)))
        case ("increase", _, amount):
            found = find(holder, path)
            if not isinstance(found, tuple) or found[0] != "int":
                raise Fails
            find(holder, path[:-1])[path[-1]] = ("int", found[1] + amount)
        case ("each", _, patch):
            model_each(find(holder, path), patch)
        case ("when", _, schema, patch, other):
            holder[0] = model_patch(patch if is_there(holder, path, schema) else other, holder[0])


def model_patch(patch, plain):
    holder = [copy.deepcopy(plain)]
    for step in patch:
        model_step(step, holder)
    return holder[0]


def model(patch, value):
    try:
        return from_plain(model_patch(patch, to_plain(value)))
    except Fails:
        return None


class Interface(unittest.TestCase):
    def test_names_and_arguments(self):
        check_interface(self, patches, {
            "primitives_of": ["step"], "run_primitive": ["primitive", "value", "held"], "apply": ["patch", "value"],
        })

    def test_examples_of_the_document(self):
        patch = (("each", ("tags",), (("replace", (), ("text", "x")),)), ("increase", ("id",), 2))
        value = fields(id=("int", 7), tags=("list", (("text", "a"), ("text", "b"))))
        expected = ("object", (("id", ("int", 9)), ("tags", ("list", (("text", "x"), ("text", "x"))))))
        self.assertEqual(apply(patch, value), expected)
        self.assertIsNone(apply(patch, fields(id=("int", 7))))


class PrimitivesOf(unittest.TestCase):
    def test_each_step(self):
        expected = [
            (("check", ("a", 0), NEW),),
            (("load", NEW), ("put", ("a", -1))),
            (("take", ("a", 0)),),
            (("load", NEW), ("swap", ("a",))),
            (("take", ("a",)), ("put", ("b", -1))),
            (("look", ("a",)), ("put", ("b", 0))),
            (("increase", ("a",), -2),),
            (("each", ("a",), ADD_ONE),),
            (("when", ("a",), ("int", 0, None), ADD_ONE, FAILING),),
        ]
        for step, primitives in zip(STEPS, expected):
            with self.subTest(step=step):
                self.assertEqual(primitives_of(step), primitives)
                self.assertTrue(consists_of_tuples(primitives_of(step)))

    def test_empty_paths_and_empty_parts(self):
        self.assertEqual(primitives_of(("test", (), NULL)), (("check", (), NULL),))
        self.assertEqual(primitives_of(("add", (), EMPTY_LIST)), (("load", EMPTY_LIST), ("put", ())))
        self.assertEqual(primitives_of(("remove", ())), (("take", ()),))
        self.assertEqual(primitives_of(("replace", (), NULL)), (("load", NULL), ("swap", ())))
        self.assertEqual(primitives_of(("move", (), ("a",))), (("take", ()), ("put", ("a",))))
        self.assertEqual(primitives_of(("copy", (), ())), (("look", ()), ("put", ())))
        self.assertEqual(primitives_of(("increase", (), 0)), (("increase", (), 0),))
        self.assertEqual(primitives_of(("each", (), ())), (("each", (), ()),))
        self.assertEqual(primitives_of(("when", (), ANY, (), ())), (("when", (), ANY, (), ()),))

    def test_steps_in_steps_stay_steps(self):
        inner = (("add", ("x",), NEW), ("move", ("x",), ("y",)))
        for step in (("each", ("a",), inner), ("when", ("a",), ANY, inner, inner)):
            self.assertEqual(primitives_of(step), (step,))

    def test_a_step_is_its_primitives_one_after_the_other(self):
        rng = random.Random(21)
        for _ in range(2000):
            value = made_value(rng, 4)
            step = made_step(rng, 2, value)
            pair = (value, None)
            for primitive in primitives_of(step):
                pair = pair and run_primitive(primitive, *pair)
            self.assertEqual(apply((step,), value), pair and pair[0], (step, value))


class Primitives(unittest.TestCase):
    def check(self, primitive, value, expected, held=HELD):
        """`expected` is the value that is left, with the held value as it was, or None."""
        for before in (held, NULL, LIST):
            pair = None if expected is None else (expected, before)
            with self.subTest(primitive=primitive, value=value, held=before):
                self.assertEqual(run_primitive(primitive, value, before), pair)

    def check_pair(self, primitive, value, expected):
        """`expected` is the pair that is left whatever was held before, or None."""
        for before in (None, HELD, LIST):
            with self.subTest(primitive=primitive, value=value, held=before):
                self.assertEqual(run_primitive(primitive, value, before), expected)


class LoadLookTake(Primitives):
    def test_load(self):
        for value in VALUES:
            for loaded in VALUES:
                self.check_pair(("load", loaded), value, (value, loaded))

    def test_look(self):
        self.check_pair(("look", ("l", 1)), OBJECT, (OBJECT, TWO))
        self.check_pair(("look", ("l",)), OBJECT, (OBJECT, LIST))
        self.check_pair(("look", ("l", 0, "l", 2)), DEEP, (DEEP, THREE))
        for value in VALUES:
            self.check_pair(("look", ()), value, (value, value))

    def test_look_at_no_place(self):
        self.check_pair(("look", ("l", 3)), OBJECT, None)
        self.check_pair(("look", ("x",)), OBJECT, None)
        self.check_pair(("look", ("l", "a")), OBJECT, None)
        self.check_pair(("look", (0,)), OBJECT, None)
        self.check_pair(("look", ("a", "b")), OBJECT, None)
        for leaf in LEAVES + [EMPTY_LIST, EMPTY_OBJECT]:
            self.check_pair(("look", (0,)), leaf, None)
            self.check_pair(("look", ("a",)), leaf, None)

    def test_take(self):
        self.check_pair(("take", ("a",)), OBJECT, (fields(b=TWO, l=LIST), ONE))
        self.check_pair(("take", ("l", 0)), OBJECT, (fields(a=ONE, b=TWO, l=ints(2, 3)), ONE))
        self.check_pair(("take", ("l", 2)), OBJECT, (fields(a=ONE, b=TWO, l=ints(1, 2)), THREE))
        self.check_pair(("take", (0,)), ("list", (OBJECT,)), (EMPTY_LIST, OBJECT))

    def test_take_of_no_place(self):
        self.check_pair(("take", ("l", 3)), OBJECT, None)
        self.check_pair(("take", ("x",)), OBJECT, None)
        self.check_pair(("take", ("x", "y")), OBJECT, None)
        self.check_pair(("take", ("a", 0)), OBJECT, None)
        self.check_pair(("take", (0,)), EMPTY_LIST, None)

    def test_take_of_the_empty_path(self):
        for value in VALUES:
            self.check_pair(("take", ()), value, None)

    def test_against_the_places(self):
        rng = random.Random(22)
        for _ in range(2000):
            value, path = made_value(rng, 4), made_path(rng, 3)
            found, left = lookup(value, path), take_at(value, path)
            self.check_pair(("look", path), value, found and (value, found))
            self.check_pair(("take", path), value, left and (left, found))


class PutSwap(Primitives):
    def test_put_of_a_field(self):
        self.check_pair_of_both(("put", ("a",)), OBJECT, fields(a=HELD, b=TWO, l=LIST))
        self.check_pair_of_both(("put", ("c",)), OBJECT, fields(a=ONE, b=TWO, c=HELD, l=LIST))
        self.check_pair_of_both(("put", ("c",)), EMPTY_OBJECT, fields(c=HELD))

    def test_put_of_an_item(self):
        self.check_pair_of_both(("put", (0,)), LIST, ("list", (HELD, ONE, TWO, THREE)))
        self.check_pair_of_both(("put", (3,)), LIST, ("list", (ONE, TWO, THREE, HELD)))
        self.check_pair_of_both(("put", (-1,)), LIST, ("list", (ONE, TWO, THREE, HELD)))
        self.check_pair_of_both(("put", ("l", 1)), OBJECT, fields(a=ONE, b=TWO, l=("list", (ONE, HELD, TWO, THREE))))

    def test_put_of_the_whole_value(self):
        for value in VALUES:
            self.check_pair_of_both(("put", ()), value, HELD)

    def test_put_that_fails(self):
        for path in ((4,), ("a",), (0, 0), (9, -1), (-1, "a")):
            self.check_pair_of_both(("put", path), LIST, None)
        for path in ((0,), (-1,), ("x", "y"), ("a", "b"), ("l", 4), ("l", "a")):
            self.check_pair_of_both(("put", path), OBJECT, None)
        for path in (("a",), (0,), (-1,)):
            self.check_pair_of_both(("put", path), NULL, None)

    def test_swap(self):
        self.check_pair_of_both(("swap", ("a",)), OBJECT, fields(a=HELD, b=TWO, l=LIST))
        self.check_pair_of_both(("swap", ("l", 1)), OBJECT, fields(a=ONE, b=TWO, l=("list", (ONE, HELD, THREE))))
        for value in VALUES:
            self.check_pair_of_both(("swap", ()), value, HELD)

    def test_swap_at_no_place(self):
        for path in (("c",), (0,), ("l", 3), ("x", "y"), ("a", "b"), ("l", "a")):
            self.check_pair_of_both(("swap", path), OBJECT, None)
        for leaf in LEAVES + [EMPTY_LIST, EMPTY_OBJECT]:
            self.check_pair_of_both(("swap", ("a",)), leaf, None)
            self.check_pair_of_both(("swap", (0,)), leaf, None)

    def test_against_the_places(self):
        rng = random.Random(23)
        for _ in range(2000):
            value, path, held = made_value(rng, 4), made_path(rng, 3), made_value(rng, 2)
            target = path + (-1,) if rng.random() < 0.3 else path
            put, swapped = put_at(value, target, held), replace_at(value, path, held)
            self.assertEqual(run_primitive(("put", target), value, held), put and (put, held))
            self.assertEqual(run_primitive(("swap", path), value, held), swapped and (swapped, held))

    def check_pair_of_both(self, primitive, value, expected):
        pair = None if expected is None else (expected, HELD)
        with self.subTest(primitive=primitive, value=value):
            self.assertEqual(run_primitive(primitive, value, HELD), pair)


class Check(Primitives):
    def test_equal_values(self):
        self.check(("check", ("a",), ONE), OBJECT, OBJECT)
        self.check(("check", ("l", 2), THREE), OBJECT, OBJECT)
        self.check(("check", ("l",), remade(LIST)), OBJECT, OBJECT)
        for value in VALUES:
            self.check(("check", (), remade(value)), value, value)

    def test_values_that_differ(self):
        self.check(("check", ("a",), TWO), OBJECT, None)
        self.check(("check", ("a",), YES), OBJECT, None)
        self.check(("check", ("l",), ints(1, 2)), OBJECT, None)
        for value in variants(DEEP):
            self.check(("check", (), value), DEEP, None)
            self.check(("check", (), DEEP), value, None)

    def test_no_place(self):
        for path in (("c",), (0,), ("l", 3), ("a", 0), ("x", "y")):
            self.check(("check", path, NULL), OBJECT, None)


class Increase(Primitives):
    def test_ints(self):
        self.check(("increase", ("a",), 4), OBJECT, fields(a=("int", 5), b=TWO, l=LIST))
        self.check(("increase", ("l", 1), 1), OBJECT, fields(a=ONE, b=TWO, l=ints(1, 3, 3)))
        self.check(("increase", (), 1), ("int", 41), ("int", 42))
        self.check(("increase", ("o", "i"), 10), DEEP, replace_at(DEEP, ("o", "i"), ("int", 17)))

    def test_amounts(self):
        for amount in (0, 1, -1, -5, 10 ** 60, -10 ** 60):
            self.check(("increase", (), amount), ("int", 3), ("int", 3 + amount))
            self.check(("increase", (), amount), ("int", -7), ("int", amount - 7))
            self.check(("increase", (), -amount), ("int", amount), ("int", 0))

    def test_other_kinds(self):
        for value in VALUES:
            if value[0] != "int":
                self.check(("increase", (), 1), value, None)
                self.check(("increase", (), 0), value, None)
                self.check(("increase", ("k",), 1), fields(k=value), None)

    def test_no_place(self):
        for path in (("c",), (0,), ("l", 3), ("a", 0), ("x", "y")):
            self.check(("increase", path, 1), OBJECT, None)


class Each(Primitives):
    def test_items_and_fields(self):
        self.check(("each", (), ADD_ONE), LIST, ints(2, 3, 4))
        self.check(("each", ("l",), ADD_ONE), OBJECT, fields(a=ONE, b=TWO, l=ints(2, 3, 4)))
        self.check(("each", (), ADD_ONE), fields(b=ONE, a=TWO), fields(a=THREE, b=TWO))
        self.check(("each", ("k",), ADD_ONE), fields(k=fields(b=ONE, a=TWO)), fields(k=fields(a=THREE, b=TWO)))

    def test_each_part_by_itself(self):
        patch = (("copy", (), ("x",)), ("remove", ("y",)))
        value = ("list", (fields(y=ONE), fields(x=ONE, y=TWO)))
        expected = ("list", (fields(x=fields(y=ONE)), fields(x=fields(x=ONE, y=TWO))))
        self.check(("each", (), patch), value, expected)
        patch = (("when", (), ONE_OR_LESS, ADD_ONE, (("increase", (), -1),)),)
        self.check(("each", (), patch), ints(0, 1, 2, 3), ints(1, 2, 1, 2))

    def test_no_items_and_no_fields(self):
        for patch in (NO_PATCH, ADD_ONE, FAILING):
            self.check(("each", (), patch), EMPTY_LIST, EMPTY_LIST)
            self.check(("each", (), patch), EMPTY_OBJECT, EMPTY_OBJECT)
            self.check(("each", ("l", 1), patch), DEEP, DEEP)

    def test_leaves(self):
        for leaf in LEAVES:
            for patch in (NO_PATCH, ADD_ONE, (("add", (), NEW),)):
                self.check(("each", (), patch), leaf, None)
                self.check(("each", ("k",), patch), fields(k=leaf), None)

    def test_no_place(self):
        for path in (("c",), (0,), ("l", 3), ("x", "y")):
            self.check(("each", path, NO_PATCH), OBJECT, None)
            self.check(("each", path, ADD_ONE), OBJECT, None)

    def test_one_of_many_fails(self):
        for count in range(1, 6):
            for index in range(count):
                items = [ONE] * count
                self.check(("each", (), ADD_ONE), ("list", tuple(items)), ints(*[2] * count))
                items[index] = NEW
                self.check(("each", (), ADD_ONE), ("list", tuple(items)), None)
                self.check(("each", (), ADD_ONE), ("object", tuple(zip("abcde", items))), None)

    def test_all_fail(self):
        self.check(("each", (), FAILING), LIST, None)
        self.check(("each", (), FAILING), OBJECT, None)

    def test_a_patch_without_steps(self):
        for value in (LIST, OBJECT, DEEP):
            self.check(("each", (), NO_PATCH), value, value)

    def test_names_and_their_order_stay(self):
        names = ("", "A", "a", "aa", "b", "~")
        value = ("object", tuple((name, ("int", index)) for index, name in enumerate(names)))
        expected = ("object", tuple((name, ("int", index + 1)) for index, name in enumerate(names)))
        self.check(("each", (), ADD_ONE), value, expected)

    def test_the_held_value_is_not_that_of_the_patch_within(self):
        patch = (("add", (-1,), NEW), ("move", (0,), (-1,)), ("copy", (0,), (0,)))
        expected = ("list", (("list", (TWO, TWO, THREE, NEW, ONE)),))
        self.check(("each", (), patch), ("list", (LIST,)), expected)
        self.assertEqual(run_primitive(("each", (), patch), ("list", (LIST,)), None), (expected, None))


class When(Primitives):
    def test_the_place_is_there_and_valid(self):
        self.check(("when", ("a",), ONE_OR_LESS, (("remove", ("b",)),), FAILING), OBJECT, fields(a=ONE, l=LIST))
        self.check(("when", (), ANY, ADD_ONE, FAILING), ONE, TWO)

    def test_the_place_is_there_and_not_valid(self):
        self.check(("when", ("b",), ONE_OR_LESS, FAILING, (("remove", ("b",)),)), OBJECT, fields(a=ONE, l=LIST))
        self.check(("when", ("a",), ("never",), FAILING, NO_PATCH), OBJECT, OBJECT)

    def test_the_place_is_not_there(self):
        for path in (("c",), (0,), ("l", 3), ("a", 0), ("x", "y")):
            for schema in (ANY, ("null",), ("not", ("null",)), ("not", ANY)):
                self.check(("when", path, schema, FAILING, (("remove", ("b",)),)), OBJECT, fields(a=ONE, l=LIST))

    def test_the_patch_is_applied_to_the_value_as_a_whole(self):
        patch, other = (("copy", ("a",), ("l", 0)),), (("copy", ("b",), ("l", 0)),)
        schema = ("list", ONE_OR_LESS, 0, 1)
        self.check(("when", ("l",), schema, patch, other), OBJECT, fields(a=ONE, b=TWO, l=ints(2, 1, 2, 3)))
        short = fields(a=ONE, b=TWO, l=ints(0))
        self.check(("when", ("l",), schema, patch, other), short, fields(a=ONE, b=TWO, l=ints(1, 0)))
        self.check(("when", ("l",), ANY, (("replace", (), NEW),), NO_PATCH), OBJECT, NEW)

    def test_the_patch_that_is_not_chosen_does_not_matter(self):
        self.check(("when", ("a",), ANY, NO_PATCH, FAILING), OBJECT, OBJECT)
        self.check(("when", ("z",), ANY, FAILING, NO_PATCH), OBJECT, OBJECT)

    def test_the_chosen_patch_fails(self):
        self.check(("when", ("a",), ANY, FAILING, NO_PATCH), OBJECT, None)
        self.check(("when", ("z",), ANY, NO_PATCH, FAILING), OBJECT, None)
        self.check(("when", ("l",), ANY, ADD_ONE, NO_PATCH), OBJECT, None)

    def test_the_held_value_is_not_that_of_the_patch_within(self):
        patch = (("add", ("c",), NEW), ("move", ("a",), ("d",)), ("replace", ("l",), NULL))
        expected = fields(b=TWO, c=NEW, d=ONE, l=NULL)
        for primitive in (("when", ("a",), ANY, patch, FAILING), ("when", ("z",), ANY, FAILING, patch)):
            self.check(primitive, OBJECT, expected)
            self.assertEqual(run_primitive(primitive, OBJECT, None), (expected, None))


class Apply(unittest.TestCase):
    def check(self, patch, value, expected):
        with self.subTest(patch=patch, value=value):
            self.assertEqual(apply(patch, value), expected)

    def test_no_steps(self):
        for value in VALUES:
            self.check((), value, value)

    def test_test(self):
        self.check((("test", ("a",), ONE),), OBJECT, OBJECT)
        self.check((("test", ("a",), TWO),), OBJECT, None)
        self.check((("test", ("z",), ONE),), OBJECT, None)
        self.check((("test", (), OBJECT), ("remove", ("l",))), OBJECT, fields(a=ONE, b=TWO))

    def test_add(self):
        self.check((("add", ("c",), NEW),), OBJECT, fields(a=ONE, b=TWO, c=NEW, l=LIST))
        self.check((("add", ("a",), NEW),), OBJECT, fields(a=NEW, b=TWO, l=LIST))
        self.check((("add", ("l", 1), NEW),), OBJECT, fields(a=ONE, b=TWO, l=("list", (ONE, NEW, TWO, THREE))))
        self.check((("add", (-1,), NEW),), LIST, ("list", (ONE, TWO, THREE, NEW)))
        self.check((("add", (3,), NEW),), LIST, ("list", (ONE, TWO, THREE, NEW)))
        self.check((("add", (4,), NEW),), LIST, None)
        self.check((("add", ("x", "y"), NEW),), OBJECT, None)

    def test_remove(self):
        self.check((("remove", ("a",)),), OBJECT, fields(b=TWO, l=LIST))
        self.check((("remove", ("l", 1)),), OBJECT, fields(a=ONE, b=TWO, l=ints(1, 3)))
        self.check((("remove", ("c",)),), OBJECT, None)
        for value in VALUES:
            self.check((("remove", ()),), value, None)

    def test_replace(self):
        self.check((("replace", ("a",), NEW),), OBJECT, fields(a=NEW, b=TWO, l=LIST))
        self.check((("replace", ("l", 0), NEW),), OBJECT, fields(a=ONE, b=TWO, l=("list", (NEW, TWO, THREE))))
        self.check((("replace", ("c",), NEW),), OBJECT, None)
        self.check((("replace", ("l", 3), NEW),), OBJECT, None)

    def test_replace_and_add_at_the_empty_path(self):
        for value in VALUES:
            for new in VALUES:
                self.check((("replace", (), new),), value, new)
                self.check((("add", (), new),), value, new)

    def test_move(self):
        self.check((("move", ("a",), ("c",)),), OBJECT, fields(b=TWO, c=ONE, l=LIST))
        self.check((("move", ("a",), ("b",)),), OBJECT, fields(b=ONE, l=LIST))
        self.check((("move", ("a",), ("a",)),), OBJECT, OBJECT)
        self.check((("move", ("l",), ()),), OBJECT, LIST)
        self.check((("move", ("c",), ("a",)),), OBJECT, None)
        self.check((("move", (), ("a",)),), OBJECT, None)
        self.check((("move", (), ()),), OBJECT, None)

    def test_a_move_goes_to_a_place_in_what_was_left(self):
        self.check((("move", (0,), (2,)),), LIST, ints(2, 3, 1))
        self.check((("move", (2,), (0,)),), LIST, ints(3, 1, 2))
        self.check((("move", (0,), (1,)),), LIST, ints(2, 1, 3))
        self.check((("move", (1,), (1,)),), LIST, LIST)
        self.check((("move", (0,), (3,)),), LIST, None)
        self.check((("move", ("l",), ("l", 0)),), OBJECT, None)
        nested = ("list", (ONE, ("list", (TWO,))))
        self.check((("move", (0,), (0, 0)),), nested, ("list", (ints(1, 2),)))
        self.check((("move", (0,), (1, 0)),), nested, None)

    def test_a_move_and_a_copy_to_the_place_behind_the_last_item(self):
        self.check((("move", (0,), (-1,)),), LIST, ints(2, 3, 1))
        self.check((("move", ("a",), ("l", -1)),), OBJECT, fields(b=TWO, l=ints(1, 2, 3, 1)))
        self.check((("copy", (0,), (-1,)),), LIST, ints(1, 2, 3, 1))
        self.check((("copy", ("b",), ("l", -1)),), OBJECT, fields(a=ONE, b=TWO, l=ints(1, 2, 3, 2)))
        self.check((("copy", (), (-1,)),), LIST, ("list", (ONE, TWO, THREE, LIST)))
        self.check((("move", ("a",), ("b", -1)),), OBJECT, None)
        self.check((("copy", ("a",), (-1,)),), OBJECT, None)

    def test_copy(self):
        self.check((("copy", ("a",), ("c",)),), OBJECT, fields(a=ONE, b=TWO, c=ONE, l=LIST))
        self.check((("copy", ("l",), ("a",)),), OBJECT, fields(a=LIST, b=TWO, l=LIST))
        self.check((("copy", (), ("a",)),), OBJECT, fields(a=OBJECT, b=TWO, l=LIST))
        self.check((("copy", ("l", 2), ("l", 0)),), OBJECT, fields(a=ONE, b=TWO, l=ints(3, 1, 2, 3)))
        self.check((("copy", ("l",), ()),), OBJECT, LIST)
        self.check((("copy", ("c",), ("a",)),), OBJECT, None)
        self.check((("copy", ("a",), ("b", "c")),), OBJECT, None)

    def test_increase_each_and_when(self):
        self.check((("increase", ("a",), -4),), OBJECT, fields(a=("int", -3), b=TWO, l=LIST))
        self.check((("each", ("l",), ADD_ONE),), OBJECT, fields(a=ONE, b=TWO, l=ints(2, 3, 4)))
        self.check((("when", ("c",), ANY, FAILING, (("add", ("c",), NULL),)),), fields(a=ONE), fields(a=ONE, c=NULL))

    def test_steps_that_need_what_the_one_before_left(self):
        patch = (("add", ("x",), EMPTY_LIST), ("add", ("x", 0), ONE), ("increase", ("x", 0), 4))
        patch += (("test", ("x",), ints(5)),)
        self.check(patch, EMPTY_OBJECT, fields(x=ints(5)))
        self.check(patch[:1] + patch[2:], EMPTY_OBJECT, None)
        self.check(patch[1:], EMPTY_OBJECT, None)
        self.check((("remove", (0,)),) * 3, LIST, EMPTY_LIST)
        self.check((("remove", (0,)),) * 4, LIST, None)
        self.check((("move", ("a",), ("c",)), ("move", ("b",), ("a",)), ("move", ("c",), ("b",))), OBJECT,
                   fields(a=TWO, b=ONE, l=LIST))

    def test_a_step_that_fails_at_the_beginning_in_the_middle_and_at_the_end(self):
        good = [("increase", ("a",), 1), ("add", ("c",), NULL), ("remove", ("l", 0))]
        bad = [("test", ("b",), ONE), ("add", ("x", "y"), ONE), ("remove", ("z",)), ("replace", ("z",), ONE),
               ("move", ("z",), ("y",)), ("copy", ("z",), ("y",)), ("increase", ("l",), 1), ("each", ("b",), ()),
               ("when", ("a",), ANY, FAILING, ())]
        self.check(tuple(good), OBJECT, fields(a=TWO, b=TWO, c=NULL, l=ints(2, 3)))
        for index, step in itertools.product(range(4), bad):
            self.check(tuple(good[:index] + [step] + good[index:]), OBJECT, None)

    def test_nothing_is_held_from_one_step_to_the_next(self):
        self.check((("copy", ("a",), ("c",)), ("add", ("d",), NULL)), fields(a=ONE), fields(a=ONE, c=ONE, d=NULL))
        self.check((("remove", ("a",)), ("replace", ("b",), NULL)), OBJECT, fields(b=NULL, l=LIST))

    def test_patches_nested_3_deep(self):
        inner = (("when", (), ("int", None, None), ADD_ONE, (("replace", (), NULL),)),)
        patch = (("each", (), (("each", ("l",), inner), ("test", ("a",), ONE))),)
        before = ("list", (OBJECT, fields(a=ONE, l=("list", (YES, ("int", 9))))))
        after = ("list", (fields(a=ONE, b=TWO, l=ints(2, 3, 4)), fields(a=ONE, l=("list", (NULL, ("int", 10))))))
        self.check(patch, before, after)
        self.check(patch, ("list", (OBJECT, fields(a=TWO, l=LIST))), None)
        self.check(patch, ("list", (OBJECT, fields(a=ONE))), None)
        twice = (("each", (), (("each", (), ADD_ONE),)),)
        self.check(twice, ("list", (LIST, ints(5))), ("list", (ints(2, 3, 4), ints(6))))
        self.check(twice, ("list", (LIST, ONE)), None)
        self.check((("each", (), twice),), ("list", (fields(k=LIST),)), ("list", (fields(k=ints(2, 3, 4)),)))
        whens = (("when", ("a",), ANY, (("when", ("b",), ANY, (("when", ("l",), ANY, FAILING, ()),), ()),), FAILING),)
        self.check(whens, fields(a=ONE, b=ONE), fields(a=ONE, b=ONE))
        self.check(whens, fields(a=ONE, b=ONE, l=ONE), None)
        self.check(whens, fields(a=ONE, l=ONE), fields(a=ONE, l=ONE))
        self.check(whens, fields(b=ONE), None)

    def test_values_of_depth_40_and_results_that_are_deeper(self):
        value = EMPTY_OBJECT
        for _ in range(39):
            value = fields(a=value)
        target = ("a",) * 6
        expected = replace_at(value, target, value)
        self.assertEqual(apply((("copy", (), target),), value), expected)
        deeper = apply((("copy", (), target),) * 8, value)
        self.assertEqual(lookup(deeper, target * 8), value)
        # A tuple that is nested this deep is compared, but not shown: its written form is beyond Python's parser.
        self.assertTrue(deeper == apply((("copy", (), target),), apply((("copy", (), target),) * 7, value)))
        self.assertIsNone(apply((("test", (), value), ("remove", ("b",))), value))


class AllPatches(unittest.TestCase):
    def test_against_the_model(self):
        rng = random.Random(24)
        failed = 0
        words = {}
        for _ in range(6000):
            value = made_value(rng, 4, ("list", "object", "int"))
            patch = made_patch(rng, 3, value)
            result = apply(patch, value)
            self.assertEqual(result, model(patch, value), (patch, value))
            failed += result is None
            for step in patch if len(patch) == 1 else ():
                words.setdefault(step[0], set()).add(result is None)
        self.assertTrue(1000 < failed < 5000, failed)
        self.assertEqual(words, {step[0]: {True, False} for step in STEPS})

    def test_one_patch_behind_the_other(self):
        rng = random.Random(25)
        succeeded = 0
        for _ in range(3000):
            value = made_value(rng, 4, ("list", "object"))
            first, second = made_patch(rng, 2, value), made_patch(rng, 2, value)
            between = apply(first, value)
            expected = None if between is None else apply(second, between)
            self.assertEqual(apply(first + second, value), expected, (first, second, value))
            succeeded += expected is not None and bool(first) and bool(second)
        self.assertGreater(succeeded, 50)

    def test_arguments_are_as_before_and_equal_inputs_give_equal_answers(self):
        rng = random.Random(26)
        for _ in range(1000):
            value, held = made_value(rng, 4), made_value(rng, 2)
            patch = made_patch(rng, 3, value)
            before = repr((patch, value, held))
            result = apply(patch, value)
            self.assertEqual(result, apply(remade(patch), remade(value)))
            self.assertTrue(consists_of_tuples(result))
            for step in patch:
                for primitive in primitives_of(step):
                    pair = run_primitive(primitive, value, held)
                    self.assertEqual(pair, run_primitive(remade(primitive), remade(value), remade(held)))
                    self.assertTrue(consists_of_tuples(pair))
            self.assertEqual(repr((patch, value, held)), before)


if __name__ == "__main__":
    unittest.main()
