"""The characters that strings consist of (point 3)."""

PERCENT_SIGN = 37


def is_plain(character):
    """Return True for a character of which strings consist; the empty string is none."""
    return " " <= character <= "~" and ord(character) != PERCENT_SIGN


def is_plain_string(text):
    """Return True if all characters of the text are such of which strings consist."""
    return all([is_plain(character) for character in text])
