"""Reading, and the index of the first fault (point 22)."""

import random
import re
import unittest

from patchkept import reading
from patchkept.errors import InvalidText, PatchkeptError
from patchkept.reading import read_value
from patchkept.values import depth_of, make_object
from patchkept.writing import write_value
from tests.helpers import NULL, check_interface, fields, ints, made_value, texts

CHARACTERS = [chr(code) for code in range(32, 127) if chr(code) != "%"]
SIGNS = "[]{},:"
# A text up to which everything is right may go on with one of these.
ENDINGS = ["", "null", "rue", "true", "0", "1", '"', '""', '"x"', "\\", ":", ",", "]", "}", "[", "{", " ", "-", "e", "se", "l"]


def fault(text):
    """The index of the first fault, or None."""
    try:
        read_value(text)
    except InvalidText as error:
        return error.index
    return None


def model(text):
    """The value or the index of the first fault, by the states of a machine with a stack instead of calls."""
    stack, at, state = [], 0, "value"
    while True:
        while state not in ("string", "escape") and text[at:at + 1] == " ":
            at += 1
        if at == len(text):
            return (stack[0], None) if state == "end" else (None, at)
        sign = text[at]
        if state in ("value", "first") and sign in "[{":
            if sum(isinstance(part, tuple) for part in stack) == 40:
                return None, at
            stack.append((sign, []))
            state = "first" if sign == "[" else "first name"
            at += 1
            continue
        if sign == '"' and state in ("value", "first", "name", "first name"):
            end = at + 1
            while text[end:end + 1] != '"':
                if text[end:end + 1] == "\\":
                    end += 1
                    if text[end:end + 1] not in ('"', "\\"):
                        return None, end
                if end >= len(text):
                    return None, len(text)
                end += 1
            string = text[at + 1:end].replace("\\\\", "\0").replace('\\"', '"').replace("\0", "\\")
            if state in ("name", "first name"):
                if string in [name for name, _ in stack[-1][1]]:
                    return None, at
                stack[-1][1].append([string, None])
                state, at = "colon", end + 1
                continue
            found, at = ["text", string], end + 1
        elif state in ("value", "first") and sign in "ntf":
            word = {"n": "null", "t": "true", "f": "false"}[sign]
            for offset, letter in enumerate(word):
                if text[at + offset:at + offset + 1] != letter:
                    return None, at + offset
            found, at = (["null"] if sign == "n" else ["bool", sign == "t"]), at + len(word)
        elif state in ("value", "first") and sign in "-0123456789":
            number = re.match("-?(0|[1-9][0-9]*)?", text[at:]).group()
            if number == "-" or number == "-0":
                return None, at + 1
            if len(number.lstrip("-")) > 60:
                return None, at + len(number) - len(number.lstrip("-")) + 60
            found, at = ["int", int(number)], at + len(number)
        elif state == "colon" and sign == ":":
            state, at = "value", at + 1
            continue
        elif state == "more" and sign == ",":
            state, at = ("value" if stack[-1][0] == "[" else "name"), at + 1
            continue
        elif sign == "]" and (state == "first" or (state == "more" and stack[-1][0] == "[")):
            found, at = ["list", tuple(stack.pop()[1])], at + 1
        elif sign == "}" and (state == "first name" or (state == "more" and stack[-1][0] == "{")):
            found, at = make_object([tuple(pair) for pair in stack.pop()[1]]), at + 1
        else:
            return None, at
        found = tuple(found)
        if not stack:
            stack, state = [found], "end"
        elif stack[-1][0] == "[":
            stack[-1][1].append(found)
            state = "more"
        else:
            stack[-1][1][-1][1] = found
            state = "more"


class Interface(unittest.TestCase):
    def test_names_and_arguments(self):
        check_interface(self, reading, {"read_value": ["text"]})


class Values(unittest.TestCase):
    def check(self, text, value):
        self.assertEqual(read_value(text), value)
        self.assertEqual(model(text), (value, None))

    def test_examples_of_the_document(self):
        value = read_value('{"b": [1, -2], "a": "x"}')
        self.assertEqual(value, ("object", (("a", ("text", "x")), ("b", ("list", (("int", 1), ("int", -2)))))))
        with self.assertRaises(InvalidText) as caught:
            read_value("[01]")
        self.assertEqual((caught.exception.index, caught.exception.args), (2, (2,)))
        self.assertIsInstance(caught.exception, PatchkeptError)

    def test_leaves(self):
        for text, value in (("null", NULL), ("true", ("bool", True)), ("false", ("bool", False)), ('""', ("text", "")),
                            ("0", ("int", 0)), ("7", ("int", 7)), ("-7", ("int", -7)), ("10", ("int", 10)),
                            ('"a\\"b\\\\"', ("text", 'a"b\\')), ('" "', ("text", " ")), ('"[1,"', ("text", "[1,"))):
            for around in ("", " ", "  "):
                self.check(around + text, value)
                self.check(text + around, value)
                self.check(around + text + around, value)

    def test_long_ints(self):
        for digits in ("1" + "0" * 59, "9" * 60):
            self.check(digits, ("int", int(digits)))
            self.check("-" + digits, ("int", -int(digits)))
            self.check(f"[{digits},-{digits}]", ints(int(digits), -int(digits)))

    def test_fields_in_any_order(self):
        self.check('{"b":1,"a":2,"":3,"ab":4}', make_object([("b", ("int", 1)), ("a", ("int", 2)), ("", ("int", 3)),
                                                             ("ab", ("int", 4))]))
        self.check('{"a":{"a":1},"b":{"a":2}}', fields(a=fields(a=("int", 1)), b=fields(a=("int", 2))))

    def test_a_depth_of_41(self):
        for opening, closing in (("[", "]"), ('{"a":', "}")):
            value = read_value(opening * 40 + "null" + closing * 40)
            self.assertEqual(depth_of(value), 41)
            self.assertEqual(fault(opening * 40 + "null" + closing * 39), len(opening) * 40 + 43)
        self.assertEqual(depth_of(read_value('[{"a":' * 20 + "1" + "}]" * 20)), 41)
        # Brackets that are closed again do not count.
        self.assertEqual(len(read_value("[" + ",".join(["[[]]"] * 60) + "]")[1]), 60)

    def test_spaces_around_every_sign(self):
        rng = random.Random(221)
        for _ in range(150):
            value = made_value(rng, 4)
            text = write_value(value)
            self.check(text, value)
            for most in (1, 2):
                spaced = " " * rng.randrange(most + 1)
                quoted = False
                for sign in text:
                    quoted = quoted != (sign == '"')
                    here = not quoted and sign in SIGNS
                    spaced += (" " * rng.randrange(most + 1) if here else "") + sign + (" " * rng.randrange(most + 1) if here else "")
                self.check(spaced + " " * rng.randrange(most + 1), value)

    def test_what_write_value_returns(self):
        rng = random.Random(222)
        for _ in range(300):
            value = made_value(rng, 4)
            self.assertEqual(read_value(write_value(value)), value)
        odd = texts('"', "\\", '\\"', "\\\\", " ", "", "".join(CHARACTERS), "x" * 200)
        self.check(write_value(odd), odd)
        named = make_object([(string[1], NULL) for string in odd[1]])
        self.check(write_value(named), named)


class Faults(unittest.TestCase):
    def check(self, text, index):
        self.assertEqual(fault(text), index, text)
        self.assertEqual(model(text), (None, index), text)

    def test_too_early(self):
        for text in ("", " ", "   ", "-", "[", "{", '"', '"a', '"\\', '"\\"', "[1", "[1,", '{"a"', '{"a":', '{"a":1', '{"a":1,',
                     "[[]", "n", "nul", "t", "f", "fals", '{"a', '{"a":1,"b', "  [ ", '{"a" '):
            self.check(text, len(text))

    def test_words(self):
        for word in ("null", "true", "false"):
            for length in range(1, len(word)):
                self.check(word[:length], length)
                self.check(word[:length] + "x", length)
                self.check(word[:length] + " " + word[length:], length)
                self.check("[" + word[:length] + "]", length + 1)
                self.check(word[:length] + word[length:].upper(), length)
            self.check(word + word, len(word))
            self.check(word + "x", len(word))
            self.check(word.upper(), 0)
            self.check(f"[{word}0]", len(word) + 1)
        self.check("nan", 1)
        self.check("None", 0)
        self.check("nule", 3)

    def test_numbers(self):
        for text, index in (("01", 1), ("00", 1), ("-0", 1), ("-01", 1), ("-", 1), ("--1", 1), ("+1", 0), ("1 2", 2), ("1-", 1),
                            ("1.0", 1), ("1e5", 1), (".5", 0), ("- 1", 1), ("[1 2]", 3), ("[-]", 2), ("[-0]", 2), ("[0 1]", 3),
                            ("[00]", 2), ("-a", 1), ("0x", 1), ("[1,02]", 4), ("0-", 1), ("1 ,", 2)):
            self.check(text, index)

    def test_too_many_digits(self):
        for more in ("", "1", "0", "x", " ", "]"):
            self.check("1" * 61 + more, 60)
            self.check("-" + "1" * 61 + more, 61)
            self.check("[0," + "9" * 61 + more, 63)
            self.check("1" * 75 + more, 60)
        self.check("0" + "1" * 70, 1)
        self.check("1" * 60 + "x", 60)

    def test_too_many_brackets(self):
        self.check("[" * 41, 40)
        self.check("[" * 60, 40)
        self.check('{"a":' * 41, 200)
        self.check('{"a":' * 40 + "[", 200)
        self.check("[" * 40 + "{", 40)
        self.check("[ " * 41, 80)
        self.check("[[]," * 40 + "[", 157)
        self.check("[" * 40, 40)
        self.check('{"a":' * 40 + '{"', 200)

    def test_names_that_stand_twice(self):
        for more in ("", "}", ":", ":1}", ":x", " x", ":[", "x"):
            self.check('{"a":1,"a"' + more, 7)
            self.check('{"a":1, "a"' + more, 8)
            self.check('{"b":{},"a":1,"c":2,"a"' + more, 20)
        self.check('{"a":1,"a', 9)
        self.check('{"a":1,"a\\', 10)
        self.check('{"a":1,"a\\x":', 10)
        self.check('{"\\"":1,"\\""', 8)
        self.check('{"a":{"a":1,"b":2,"a":3', 18)
        self.check('[{"a":1},{"a":1,"a":1}]', 16)
        self.check('{"a":{"a":x', 10)

    def test_escapes(self):
        for sign in CHARACTERS:
            if sign not in '"\\':
                self.check('"\\' + sign + '"', 2)
                self.check('{"a\\' + sign + '":1}', 4)
        self.check('"\\\\\\', 4)
        self.check('"\\\\"x', 4)

    def test_signs(self):
        for text, index in (("]", 0), ("}", 0), (",", 0), (":", 0), ("[,", 1), ("[1,]", 3), ("[1,,2]", 3), ("[1:2]", 2), ("[}", 1),
                            ("{]", 1), ("{,", 1), ("{1:2}", 1), ("{null:2}", 1), ("{a:1}", 1), ('{"a" 1}', 5), ('{"a",1}', 4),
                            ('{"a":}', 5), ('{"a":1,}', 7), ('{"a":1,,', 7), ('{"a":1 "b":2}', 7), ('{"a":1:', 6), ('{"a":1]', 6),
                            ("[1}", 2), ("[] []", 3), ("{}{}", 2), ('"a""b"', 3), ("[1]]", 3), ("[1],", 3), ("'a'", 0), ('{"a"}', 4),
                            ("[[1] [2]]", 5), ("{[]:1}", 1), ("1,", 1), ('"a":1', 3), ("{}}", 2)):
            self.check(text, index)

    def test_characters_of_no_string(self):
        for sign in ("\n", "\t", chr(37), chr(127), chr(0), chr(233)):
            self.assertEqual(fault(sign), 0)
            self.assertEqual(fault("[" + sign + "]"), 1)
            self.assertEqual(fault('"a' + sign + '"'), 2)
            self.assertEqual(fault('{"' + sign + '":1}'), 2)

    def test_changes_at_every_place(self):
        texts_of = ['{"b": [1, -20, null], "a\\"": {"": "x", "b": true}, "c": false}', ' [ "ab\\\\" , [ ] , { } , 0 , [[-7]] ] ',
                    '{"a":{"a":1,"b":[{"a":0}]},"b":"\\"a\\":1"}']
        for text in texts_of:
            self.assertIsNone(fault(text))
            for at in range(len(text) + 1):
                changed = [text[:at], text[:at] + text[at + 1:]]
                changed += [text[:at] + ending for ending in ENDINGS]
                changed += [text[:at] + sign + text[at + 1:] for sign in CHARACTERS]
                changed += [text[:at] + sign + text[at:] for sign in CHARACTERS]
                for other in changed:
                    value, index = model(other)
                    self.assertEqual(fault(other), index, other)
                    if index is None:
                        self.assertEqual(read_value(other), value)

    def test_made_up_texts(self):
        rng = random.Random(223)
        pieces = ["[", "]", "{", "}", ",", ":", " ", '"', "\\", "a", "b", '"a"', '"b"', "1", "0", "-", "null", "true", "[]", "{}"]
        for _ in range(20000):
            text = "".join(rng.choice(pieces) for _ in range(rng.randrange(9)))
            value, index = model(text)
            self.assertEqual(fault(text), index, text)
            if index is None:
                self.assertEqual(read_value(text), value)


if __name__ == "__main__":
    unittest.main()
