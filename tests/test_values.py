"""Values, their sizes and their depths (points 4 and 5)."""

import copy
import itertools
import unittest

from patchkept import values
from patchkept.values import depth_of, make_object, size_of
from tests.helpers import NULL, check_interface

LEAVES = [
    NULL, ("bool", True), ("bool", False), ("int", 0), ("int", -3), ("int", 10 ** 400),
    ("text", ""), ("text", "null"), ("text", "many characters, but one value"),
]
ASCENDING = ["", " ", "!", "0", "10", "9", "A", "Z", "a", "a ", "aa", "aaa", "ab", "b", "ba", "~"]


def nested_lists(depth):
    value = NULL
    for _ in range(depth - 1):
        value = ("list", (value,))
    return value


def nested_objects(depth):
    value = ("text", "x")
    for _ in range(depth - 1):
        value = ("object", (("a", value),))
    return value


class Interface(unittest.TestCase):
    def test_names_and_arguments(self):
        check_interface(self, values, {"make_object": ["pairs"], "size_of": ["value"], "depth_of": ["value"]})


class MakeObject(unittest.TestCase):
    def test_no_pairs(self):
        self.assertEqual(make_object([]), ("object", ()))

    def test_one_pair(self):
        self.assertEqual(make_object([("a", NULL)]), ("object", (("a", NULL),)))

    def test_example_of_reading(self):
        pairs = [("b", ("list", (("int", 1), ("int", -2)))), ("a", ("text", "x"))]
        expected = ("object", (("a", ("text", "x")), ("b", ("list", (("int", 1), ("int", -2))))))
        self.assertEqual(make_object(pairs), expected)

    def test_pairs_in_any_order(self):
        fields = [("", ("int", 9)), ("a", ("int", 3)), ("aa", ("int", 2)), ("ab", ("int", 1)), ("b", NULL)]
        for order in itertools.permutations(fields):
            self.assertEqual(make_object(list(order)), ("object", tuple(fields)))

    def test_names_that_differ_in_one_character_or_in_length(self):
        fields = [(name, ("text", name)) for name in ASCENDING]
        for turn in range(len(fields)):
            turned = fields[turn:] + fields[:turn]
            self.assertEqual(make_object(turned), ("object", tuple(fields)))
            self.assertEqual(make_object(turned[::-1]), ("object", tuple(fields)))

    def test_order_is_that_of_the_names_alone(self):
        value = make_object([("b", ("bool", False)), ("a", ("text", "z")), ("c", ("int", -1))])
        self.assertEqual([name for name, _ in value[1]], ["a", "b", "c"])

    def test_values_stay_with_their_names(self):
        value = make_object([("y", ("int", 1)), ("x", ("int", 2))])
        self.assertEqual(dict(value[1]), {"x": ("int", 2), "y": ("int", 1)})

    def test_equal_values_under_different_names(self):
        value = make_object([("d", NULL), ("c", NULL), ("b", ("object", ()))])
        self.assertEqual(value, ("object", (("b", ("object", ())), ("c", NULL), ("d", NULL))))

    def test_the_list_is_as_before_and_is_not_kept(self):
        pairs = [("b", ("list", (NULL,))), ("a", NULL)]
        before = copy.deepcopy(pairs)
        value = make_object(pairs)
        self.assertEqual(pairs, before)
        pairs.append(("c", NULL))
        self.assertEqual(value, ("object", (("a", NULL), ("b", ("list", (NULL,))))))

    def test_the_object_consists_of_tuples(self):
        value = make_object([("b", NULL), ("a", NULL)])
        self.assertIs(type(value), tuple)
        self.assertIs(type(value[1]), tuple)
        self.assertEqual([type(field) for field in value[1]], [tuple, tuple])
        hash(value)

    def test_equal_inputs_give_equal_objects(self):
        pairs = [("b", NULL), ("a", ("int", 1))]
        self.assertEqual(make_object(pairs), make_object(list(pairs)))
        self.assertEqual(make_object(pairs), make_object(pairs[::-1]))


class SizeAndDepth(unittest.TestCase):
    def check(self, value, size, depth):
        before = repr(value)
        self.assertEqual((size_of(value), depth_of(value)), (size, depth))
        self.assertEqual((size_of(value), depth_of(value)), (size, depth))
        self.assertEqual(repr(value), before)

    def test_each_kind_without_parts(self):
        for value in LEAVES:
            with self.subTest(kind=value[0]):
                self.check(value, 1, 1)

    def test_empty_list_and_empty_object(self):
        self.check(("list", ()), 1, 1)
        self.check(("object", ()), 1, 1)

    def test_items(self):
        self.check(("list", (NULL,)), 2, 2)
        self.check(("list", (NULL, NULL, NULL)), 4, 2)
        self.check(("list", tuple(LEAVES)), 1 + len(LEAVES), 2)

    def test_fields(self):
        self.check(("object", (("a", NULL),)), 2, 2)
        self.check(("object", (("", NULL), ("a", ("int", 5)), ("b", ("text", "x")))), 4, 2)

    def test_empty_parts_count(self):
        self.check(("list", (("list", ()), ("object", ()))), 3, 2)
        self.check(("object", (("a", ("object", ())), ("b", ("list", ())))), 3, 2)

    def test_a_text_that_looks_like_a_kind_has_no_parts(self):
        self.check(("list", (("text", "list"), ("text", "object"))), 3, 2)
        self.check(("object", (("list", NULL), ("object", NULL))), 3, 2)

    def test_nested_and_mixed(self):
        inner = ("object", (("a", ("list", (NULL, ("int", 1)))), ("b", ("bool", True))))
        self.check(inner, 5, 3)
        self.check(("list", (NULL, inner, ("list", ()))), 8, 4)
        self.check(("object", (("k", inner), ("l", ("list", (inner, inner))))), 17, 5)

    def test_the_deepest_part_counts_wherever_it_stands(self):
        deep = nested_lists(5)
        for order in itertools.permutations([NULL, deep, nested_lists(3)]):
            self.check(("list", order), 1 + 1 + 5 + 3, 6)
            fields = tuple(zip(["a", "b", "c"], order))
            self.check(("object", fields), 1 + 1 + 5 + 3, 6)

    def test_forty_deep_and_beyond(self):
        for depth in (39, 40, 41, 46, 100, 250):
            with self.subTest(depth=depth):
                self.check(nested_lists(depth), depth, depth)
                self.check(nested_objects(depth), depth, depth)

    def test_many_items_side_by_side(self):
        self.check(("list", (NULL,) * 5000), 5001, 2)
        fields = [(f"n{number}", ("list", (NULL,))) for number in range(2000)]
        self.check(make_object(fields), 4001, 3)


if __name__ == "__main__":
    unittest.main()
