"""Reading the JSON text of a value, up to its first fault (point 22)."""

from patchkept.errors import InvalidText
from patchkept.strings import is_plain
from patchkept.values import make_object

MOST_BRACKETS = 40
MOST_DIGITS = 60
WORDS = {
    "n": ("null", ("null",)),
    "t": ("true", ("bool", True)),
    "f": ("false", ("bool", False)),
}


def is_digit(character):
    """Return True for a decimal digit; the empty string is none."""
    return "0" <= character <= "9"


class Reader:
    """A text that is read from the left; `at` is the index of the character that comes next."""

    def __init__(self, text):
        self.text = text
        self.at = 0
        self.brackets = 0

    def coming(self):
        """Return the character that comes next, or the empty string at the end."""
        return self.text[self.at:self.at + 1]

    def check(self, can_go_on):
        """Raise InvalidText for the character that comes next, or for the end, if the text cannot go on with it."""
        if not can_go_on:
            raise InvalidText(self.at)

    def take(self, expected):
        """Read the characters that must come next."""
        for character in expected:
            self.check(self.coming() == character)
            self.at += 1

    def skip_spaces(self):
        """Read the spaces that come next."""
        while self.coming() == " ":
            self.at += 1

    def begin(self, bracket):
        """Read an opening bracket and the spaces behind it."""
        self.check(self.brackets < MOST_BRACKETS)
        self.take(bracket)
        self.brackets += 1
        self.skip_spaces()

    def end(self, bracket):
        """Read a closing bracket."""
        self.take(bracket)
        self.brackets -= 1

    def goes_on(self):
        """Read a comma and return True, or return False if something else comes next; spaces around it are read."""
        self.skip_spaces()
        if self.coming() != ",":
            return False
        self.take(",")
        self.skip_spaces()
        return True

    def read_number(self):
        """Read an int."""
        start = self.at
        if self.coming() == "-":
            self.take("-")
            self.check(self.coming() != "0")
        self.check(is_digit(self.coming()))
        if self.coming() == "0":
            self.take("0")
            return ("int", 0)
        first_digit = self.at
        while is_digit(self.coming()):
            self.check(self.at < first_digit + MOST_DIGITS)
            self.at += 1
        return ("int", int(self.text[start:self.at]))

    def read_string(self):
        """Read a text in double quotes, and return its string."""
        characters = []
        self.take("\"")
        while self.coming() != "\"":
            if self.coming() == "\\":
                self.take("\\")
                self.check(self.coming() == "\"" or self.coming() == "\\")
            self.check(is_plain(self.coming()))
            characters.append(self.coming())
            self.at += 1
        self.take("\"")
        return "".join(characters)

    def read_list(self):
        """Read a list."""
        items = []
        self.begin("[")
        if self.coming() != "]":
            items.append(self.read_value())
            while self.goes_on():
                items.append(self.read_value())
        self.end("]")
        return ("list", tuple(items))

    def read_field(self, fields):
        """Read a field into a dict of the fields before it."""
        start = self.at
        name = self.read_string()
        if name in fields:
            raise InvalidText(start)
        self.skip_spaces()
        self.take(":")
        self.skip_spaces()
        fields[name] = self.read_value()

    def read_object(self):
        """Read an object."""
        fields = {}
        self.begin("{")
        if self.coming() != "}":
            self.read_field(fields)
            while self.goes_on():
                self.read_field(fields)
        self.end("}")
        return make_object(list(fields.items()))

    def read_value(self):
        """Read a value, before which no spaces are left."""
        first = self.coming()
        if first == "[":
            return self.read_list()
        if first == "{":
            return self.read_object()
        if first == "\"":
            return ("text", self.read_string())
        if first in WORDS:
            word, value = WORDS[first]
            self.take(word)
            return value
        return self.read_number()


def read_value(text):
    """Return the value of a JSON text, or raise InvalidText with the index of its first fault."""
    reader = Reader(text)
    reader.skip_spaces()
    value = reader.read_value()
    reader.skip_spaces()
    reader.check(reader.at == len(text))
    return value
