"""The JSON text of a value (point 21)."""

import json
import random
import unittest

from patchkept import writing
from patchkept.writing import write_value
from tests.helpers import NULL, check_interface, fields, ints, made_value, remade, texts


def to_json(value):
    """The value as Python's own library of JSON takes it."""
    kind = value[0]
    if kind == "list":
        return [to_json(item) for item in value[1]]
    if kind == "object":
        return {name: to_json(part) for name, part in value[1]}
    return None if kind == "null" else value[1]


class Interface(unittest.TestCase):
    def test_names_and_arguments(self):
        check_interface(self, writing, {"write_value": ["value"]})


class Writing(unittest.TestCase):
    def check(self, value, text):
        written = write_value(value)
        self.assertEqual(written, text)
        self.assertEqual(json.loads(written), to_json(value))

    def test_leaves(self):
        self.check(NULL, "null")
        self.check(("bool", True), "true")
        self.check(("bool", False), "false")
        self.check(("text", ""), '""')
        self.check(("text", "null"), '"null"')
        self.check(("text", " a  b "), '" a  b "')

    def test_ints(self):
        for number in (0, 1, -1, 10, -10, 1000000, 10 ** 299, 10 ** 300 - 1, -(10 ** 299)):
            self.check(("int", number), str(number))
        self.check(("int", 0), "0")
        self.check(("int", -12), "-12")
        self.assertEqual(write_value(("int", int("7" * 300))), "7" * 300)

    def test_quotes_and_backslashes(self):
        self.check(("text", '"'), '"\\""')
        self.check(("text", "\\"), '"\\\\"')
        self.check(("text", '\\"'), '"\\\\\\""')
        self.check(("text", 'a"b\\c'), '"a\\"b\\\\c"')
        self.check(("object", (('"', NULL), ("\\", NULL))), '{"\\"":null,"\\\\":null}')
        self.check(("text", "\\n"), '"\\\\n"')

    def test_every_other_character_stands_as_it_is(self):
        plain = "".join(chr(code) for code in range(32, 127) if chr(code) not in '%"\\')
        self.check(("text", plain), f'"{plain}"')
        self.check(("object", ((plain, ("text", plain)),)), '{"' + plain + '":"' + plain + '"}')
        self.check(("text", "x" * 200), '"' + "x" * 200 + '"')

    def test_lists_and_objects(self):
        self.check(("list", ()), "[]")
        self.check(("object", ()), "{}")
        self.check(ints(1), "[1]")
        self.check(ints(1, -2, 3), "[1,-2,3]")
        self.check(texts("a", ",", "]"), '["a",",","]"]')
        self.check(fields(a=NULL), '{"a":null}')
        self.check(fields(a=ints(), b=fields(), c=ints(0)), '{"a":[],"b":{},"c":[0]}')
        self.check(("object", (("", NULL), (" ", NULL), ("A", NULL), ("a", NULL))), '{"":null," ":null,"A":null,"a":null}')
        self.check(("list", (ints(1), ints(), fields(x=texts("y", "z")))), '[[1],[],{"x":["y","z"]}]')

    def test_deep_values(self):
        value, text = NULL, "null"
        for level in range(99):
            value = ("list", (value,)) if level % 2 else ("object", (("a", value),))
            text = f"[{text}]" if level % 2 else '{"a":' + text + "}"
        self.check(value, text)

    def test_made_up_values(self):
        rng = random.Random(211)
        for _ in range(500):
            value = made_value(rng, 4)
            kept = remade(value)
            self.check(value, json.dumps(to_json(value), separators=(",", ":")))
            self.assertEqual(value, kept)
            self.assertEqual(write_value(value), write_value(kept))


if __name__ == "__main__":
    unittest.main()
