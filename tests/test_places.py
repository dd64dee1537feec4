"""Paths and changes at a place (points 6 to 10)."""

import itertools
import unittest

from patchkept import places
from patchkept.places import lookup, put_at, replace_at, take_at
from tests.helpers import (
    NULL, check_interface, consists_of_tuples, from_plain, leads, place_of, places_in, remade, to_plain,
)

ONE, TWO, THREE = ("int", 1), ("int", 2), ("int", 3)
NEW = ("text", "new")
LEAVES = [NULL, ("bool", True), ("int", 5), ("text", "ab"), ("text", "")]
EMPTY_LIST, EMPTY_OBJECT = ("list", ()), ("object", ())
LIST = ("list", (ONE, TWO, THREE))
OBJECT = ("object", (("b", ONE), ("d", TWO), ("f", THREE)))
MIXED = ("object", (
    ("", EMPTY_LIST),
    ("a", ("list", (ONE, ("object", (("a", TWO), ("b", EMPTY_OBJECT))), ("list", (NULL, THREE))))),
    ("b", ("object", (("a", ("list", (("object", (("z", NULL),)),))), ("b", NULL)))),
    ("z", ("text", "ab")),
))
VALUES = LEAVES + [EMPTY_LIST, EMPTY_OBJECT, LIST, OBJECT, MIXED, ("list", (MIXED, LIST, EMPTY_OBJECT))]
TOKENS = ["", "a", "b", "z", "0", 0, 1, 2, 3]
PATHS = [path for length in range(4) for path in itertools.product(TOKENS, repeat=length)]


# The model below works on values in the plain form.

def plain_lookup(plain, path):
    for token in path:
        if not leads(plain, token):
            return None
        plain = plain[token]
    return plain


def model_replace(value, path, new):
    if not path:
        return new
    plain = to_plain(value)
    parent = plain_lookup(plain, path[:-1])
    if parent is None or not leads(parent, path[-1]):
        return None
    parent[path[-1]] = new
    return from_plain(plain)


def model_put(value, path, new):
    if not path:
        return new
    plain = to_plain(value)
    parent = plain_lookup(plain, path[:-1])
    token = path[-1]
    if isinstance(parent, dict) and isinstance(token, str):
        parent[token] = new
    elif isinstance(parent, list) and token == -1:
        parent.append(new)
    elif isinstance(parent, list) and not isinstance(token, str) and token <= len(parent):
        parent.insert(token, new)
    else:
        return None
    return from_plain(plain)


def model_take(value, path):
    if not path:
        return None
    plain = to_plain(value)
    parent = plain_lookup(plain, path[:-1])
    if parent is None or not leads(parent, path[-1]):
        return None
    del parent[path[-1]]
    return from_plain(plain)


class Interface(unittest.TestCase):
    def test_names_and_arguments(self):
        check_interface(self, places, {
            "lookup": ["value", "path"], "replace_at": ["value", "path", "new"],
            "put_at": ["value", "path", "new"], "take_at": ["value", "path"],
        })


class Lookup(unittest.TestCase):
    def test_the_empty_path(self):
        for value in VALUES:
            self.assertEqual(lookup(value, ()), value)

    def test_a_name_in_an_object(self):
        self.assertEqual(lookup(OBJECT, ("b",)), ONE)
        self.assertEqual(lookup(OBJECT, ("d",)), TWO)
        self.assertEqual(lookup(OBJECT, ("f",)), THREE)
        self.assertEqual(lookup(MIXED, ("",)), EMPTY_LIST)

    def test_a_name_that_is_not_there(self):
        for name in ("", "a", "c", "g", "bb", "B", "b ", "0"):
            self.assertIsNone(lookup(OBJECT, (name,)))
        self.assertIsNone(lookup(EMPTY_OBJECT, ("",)))

    def test_an_index(self):
        self.assertEqual(lookup(LIST, (0,)), ONE)
        self.assertEqual(lookup(LIST, (1,)), TWO)
        self.assertEqual(lookup(LIST, (2,)), THREE)

    def test_an_index_behind_the_last_one(self):
        for index in (3, 4, 9, 10 ** 20):
            self.assertIsNone(lookup(LIST, (index,)))
        self.assertIsNone(lookup(EMPTY_LIST, (0,)))

    def test_the_place_behind_the_last_item_is_no_place(self):
        self.assertIsNone(lookup(LIST, (-1,)))
        self.assertIsNone(lookup(LIST, (-3,)))

    def test_tokens_of_the_other_form(self):
        for token in ("", "0", "1", "list"):
            self.assertIsNone(lookup(LIST, (token,)))
        for token in (0, 1, 2):
            self.assertIsNone(lookup(OBJECT, (token,)))
        self.assertIsNone(lookup(("object", (("0", ONE),)), (0,)))

    def test_leaves_lead_nowhere(self):
        for leaf in LEAVES:
            for token in ("", "a", "ab", 0, 1):
                self.assertIsNone(lookup(leaf, (token,)))

    def test_several_tokens(self):
        self.assertEqual(lookup(MIXED, ("a", 1, "b")), EMPTY_OBJECT)
        self.assertEqual(lookup(MIXED, ("a", 2, 1)), THREE)
        self.assertEqual(lookup(MIXED, ("b", "a", 0, "z")), NULL)

    def test_a_path_that_leads_astray_before_its_last_token(self):
        self.assertIsNone(lookup(MIXED, ("x", 0)))
        self.assertIsNone(lookup(MIXED, ("a", 3, "a")))
        self.assertIsNone(lookup(MIXED, ("a", "a", 0)))
        self.assertIsNone(lookup(MIXED, ("a", 0, 0, "a")))
        self.assertIsNone(lookup(MIXED, (0, "a")))

    def test_longer_paths_and_greater_indexes_than_are_passed(self):
        value = NULL
        for _ in range(100):
            value = ("list", (ONE,) * 11 + (("object", (("k", value),)),))
        self.assertEqual(lookup(value, (11, "k") * 100), NULL)
        self.assertIsNone(lookup(value, (11, "k") * 100 + (0,)))


class Replace(unittest.TestCase):
    def test_the_empty_path(self):
        for value in VALUES:
            self.assertEqual(replace_at(value, (), NEW), NEW)

    def test_fields(self):
        self.assertEqual(replace_at(OBJECT, ("b",), NEW), ("object", (("b", NEW), ("d", TWO), ("f", THREE))))
        self.assertEqual(replace_at(OBJECT, ("d",), NEW), ("object", (("b", ONE), ("d", NEW), ("f", THREE))))
        self.assertEqual(replace_at(OBJECT, ("f",), NEW), ("object", (("b", ONE), ("d", TWO), ("f", NEW))))

    def test_items(self):
        self.assertEqual(replace_at(LIST, (0,), NEW), ("list", (NEW, TWO, THREE)))
        self.assertEqual(replace_at(LIST, (1,), NEW), ("list", (ONE, NEW, THREE)))
        self.assertEqual(replace_at(LIST, (2,), NEW), ("list", (ONE, TWO, NEW)))

    def test_deeper_places(self):
        value = ("list", (("object", (("a", LIST), ("b", NULL))), ONE))
        expected = ("list", (("object", (("a", ("list", (ONE, NEW, THREE))), ("b", NULL))), ONE))
        self.assertEqual(replace_at(value, (0, "a", 1), NEW), expected)

    def test_no_place(self):
        self.assertIsNone(replace_at(OBJECT, ("c",), NEW))
        self.assertIsNone(replace_at(OBJECT, (0,), NEW))
        self.assertIsNone(replace_at(LIST, (3,), NEW))
        self.assertIsNone(replace_at(LIST, ("0",), NEW))
        self.assertIsNone(replace_at(MIXED, ("x", "y"), NEW))
        for leaf in LEAVES:
            self.assertIsNone(replace_at(leaf, (0,), NEW))
            self.assertIsNone(replace_at(leaf, ("a",), NEW))

    def test_at_forty_levels(self):
        value, expected = NULL, NEW
        for _ in range(40):
            value = ("list", (ONE, ("object", (("k", value), ("l", TWO)))))
            expected = ("list", (ONE, ("object", (("k", expected), ("l", TWO)))))
        self.assertEqual(replace_at(value, (1, "k") * 40, NEW), expected)


class Put(unittest.TestCase):
    def test_the_empty_path(self):
        for value in VALUES:
            self.assertEqual(put_at(value, (), NEW), NEW)

    def test_a_field_that_is_there(self):
        self.assertEqual(put_at(OBJECT, ("d",), NEW), ("object", (("b", ONE), ("d", NEW), ("f", THREE))))

    def test_a_field_that_is_not_there(self):
        fields = OBJECT[1]
        for index, name in enumerate(("a", "c", "e", "g")):
            expected = ("object", fields[:index] + ((name, NEW),) + fields[index:])
            self.assertEqual(put_at(OBJECT, (name,), NEW), expected)
        self.assertEqual(put_at(OBJECT, ("",), NEW), ("object", (("", NEW),) + fields))
        self.assertEqual(put_at(OBJECT, ("bb",), NEW), ("object", fields[:1] + (("bb", NEW),) + fields[1:]))
        self.assertEqual(put_at(EMPTY_OBJECT, ("a",), NEW), ("object", (("a", NEW),)))

    def test_an_index(self):
        self.assertEqual(put_at(LIST, (0,), NEW), ("list", (NEW, ONE, TWO, THREE)))
        self.assertEqual(put_at(LIST, (1,), NEW), ("list", (ONE, NEW, TWO, THREE)))
        self.assertEqual(put_at(LIST, (2,), NEW), ("list", (ONE, TWO, NEW, THREE)))
        self.assertEqual(put_at(LIST, (3,), NEW), ("list", (ONE, TWO, THREE, NEW)))
        self.assertEqual(put_at(EMPTY_LIST, (0,), NEW), ("list", (NEW,)))

    def test_an_index_beyond_the_number_of_items(self):
        for index in (4, 5, 9, 10 ** 20):
            self.assertIsNone(put_at(LIST, (index,), NEW))
        self.assertIsNone(put_at(EMPTY_LIST, (1,), NEW))

    def test_behind_the_last_item(self):
        self.assertEqual(put_at(LIST, (-1,), NEW), ("list", (ONE, TWO, THREE, NEW)))
        self.assertEqual(put_at(EMPTY_LIST, (-1,), NEW), ("list", (NEW,)))
        self.assertEqual(put_at(("list", (LIST,)), (0, -1), NEW), ("list", (("list", LIST[1] + (NEW,)),)))

    def test_behind_the_last_item_of_no_list(self):
        for value in LEAVES + [OBJECT, EMPTY_OBJECT]:
            self.assertIsNone(put_at(value, (-1,), NEW))

    def test_tokens_of_the_other_form(self):
        for name in ("", "0", "a"):
            self.assertIsNone(put_at(LIST, (name,), NEW))
            self.assertIsNone(put_at(EMPTY_LIST, (name,), NEW))
        for index in (0, 1, 3):
            self.assertIsNone(put_at(OBJECT, (index,), NEW))
            self.assertIsNone(put_at(EMPTY_OBJECT, (index,), NEW))

    def test_leaves_are_no_parents(self):
        for leaf in LEAVES:
            for token in ("", "a", 0, 1, -1):
                self.assertIsNone(put_at(leaf, (token,), NEW))

    def test_no_parent(self):
        self.assertIsNone(put_at(OBJECT, ("x", "y"), NEW))
        self.assertIsNone(put_at(OBJECT, ("x", -1), NEW))
        self.assertIsNone(put_at(LIST, (3, 0), NEW))
        self.assertIsNone(put_at(LIST, (-1, "a"), NEW))
        self.assertIsNone(put_at(MIXED, ("a", 0, 0, "a"), NEW))


class Take(unittest.TestCase):
    def test_the_empty_path(self):
        for value in VALUES:
            self.assertIsNone(take_at(value, ()))

    def test_a_field(self):
        self.assertEqual(take_at(OBJECT, ("b",)), ("object", (("d", TWO), ("f", THREE))))
        self.assertEqual(take_at(OBJECT, ("d",)), ("object", (("b", ONE), ("f", THREE))))
        self.assertEqual(take_at(OBJECT, ("f",)), ("object", (("b", ONE), ("d", TWO))))
        self.assertEqual(take_at(("object", (("", NULL),)), ("",)), EMPTY_OBJECT)

    def test_an_item(self):
        self.assertEqual(take_at(LIST, (0,)), ("list", (TWO, THREE)))
        self.assertEqual(take_at(LIST, (1,)), ("list", (ONE, THREE)))
        self.assertEqual(take_at(LIST, (2,)), ("list", (ONE, TWO)))
        self.assertEqual(take_at(("list", (ONE,)), (0,)), EMPTY_LIST)

    def test_one_of_equal_items(self):
        self.assertEqual(take_at(("list", (ONE, ONE, TWO, ONE)), (1,)), ("list", (ONE, TWO, ONE)))

    def test_later_items_move_up_by_one(self):
        left = take_at(LIST, (0,))
        self.assertEqual([lookup(left, (index,)) for index in range(3)], [TWO, THREE, None])

    def test_no_place(self):
        self.assertIsNone(take_at(OBJECT, ("c",)))
        self.assertIsNone(take_at(OBJECT, (0,)))
        self.assertIsNone(take_at(EMPTY_OBJECT, ("",)))
        self.assertIsNone(take_at(LIST, (3,)))
        self.assertIsNone(take_at(LIST, ("0",)))
        self.assertIsNone(take_at(LIST, (-1,)))
        self.assertIsNone(take_at(EMPTY_LIST, (0,)))
        self.assertIsNone(take_at(MIXED, ("a", 0, "a")))
        self.assertIsNone(take_at(MIXED, ("x", "y")))
        for leaf in LEAVES:
            self.assertIsNone(take_at(leaf, ("a",)))
            self.assertIsNone(take_at(leaf, (0,)))


class AllPlaces(unittest.TestCase):
    def test_against_the_model(self):
        for value in VALUES:
            for path in PATHS:
                with self.subTest(value=value, path=path):
                    self.assertEqual(lookup(value, path), place_of(value, path))
                    self.assertEqual(replace_at(value, path, NEW), model_replace(value, path, NEW))
                    self.assertEqual(put_at(value, path, LIST), model_put(value, path, LIST))
                    self.assertEqual(take_at(value, path), model_take(value, path))

    def test_behind_the_last_item_against_the_model(self):
        for value in VALUES:
            for parent in PATHS:
                path = parent + (-1,)
                if len(parent) < 3:
                    self.assertEqual(put_at(value, path, NEW), model_put(value, path, NEW))

    def test_what_was_put_is_found(self):
        for value in VALUES:
            for path in PATHS:
                changed = put_at(value, path, OBJECT)
                if changed is not None:
                    self.assertEqual(lookup(changed, path), OBJECT)

    def test_what_was_put_behind_the_last_item_is_the_last_item(self):
        for value in VALUES:
            for path in places_in(value):
                parent = lookup(value, path)
                changed = put_at(value, path + (-1,), NEW)
                if parent[0] == "list":
                    count = len(parent[1])
                    self.assertEqual(lookup(changed, path + (count,)), NEW)
                    self.assertEqual(take_at(changed, path + (count,)), value)
                else:
                    self.assertIsNone(changed)

    def test_what_was_taken_can_be_put_back(self):
        for value in VALUES:
            for path in places_in(value)[1:]:
                left = take_at(value, path)
                self.assertEqual(put_at(left, path, lookup(value, path)), value)

    def test_nothing_else_changes(self):
        for value in VALUES:
            for path in places_in(value):
                changed = replace_at(value, path, NEW)
                self.assertEqual(lookup(changed, path), NEW)
                for other in places_in(value):
                    shared = min(len(path), len(other))
                    if path[:shared] != other[:shared]:
                        self.assertEqual(lookup(changed, other), lookup(value, other))
                self.assertEqual(replace_at(changed, path, lookup(value, path)), value)

    def test_arguments_are_as_before_and_answers_are_equal_tuples(self):
        for value in VALUES:
            for path in places_in(value):
                before = repr((value, path, LIST))
                for change in (replace_at, put_at):
                    first = change(value, path, LIST)
                    self.assertEqual(first, change(remade(value), remade(path), remade(LIST)))
                    self.assertTrue(consists_of_tuples(first))
                self.assertEqual(lookup(value, path), lookup(remade(value), remade(path)))
                self.assertEqual(take_at(value, path), take_at(remade(value), remade(path)))
                if path:
                    self.assertTrue(consists_of_tuples(take_at(value, path)))
                self.assertEqual(repr((value, path, LIST)), before)


if __name__ == "__main__":
    unittest.main()
