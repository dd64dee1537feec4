"""Choosing integers and strings (point 18)."""

# The characters of strings: those from the space to ~ without the percent sign, letters first.
CHARACTERS = (
    "abcdefghijklmnopqrstuvwxyzABCDEFGHIJKLMNOPQRSTUVWXYZ0123456789"
    " !\"#$&'()*+,-./:;<=>?@[\\]^_`{|}~"
)


def pick_int(low, high):
    """Return an integer from `low` to `high`, or None if there is none; None is no bound."""
    if low is not None and high is not None and low > high:
        return None
    if low is not None and low > 0:
        return low
    if high is not None and high < 0:
        return high
    return 0


def string_of(length, number):
    """Return the string of this length with this number among them, or None if there are not so many."""
    characters = []
    rest = number
    for _ in range(length):
        characters.append(CHARACTERS[rest % len(CHARACTERS)])
        rest = rest // len(CHARACTERS)
    return "".join(reversed(characters)) if rest == 0 else None


def pick_text(low, high, excluded):
    """Return a string of `low` to `high` characters that is not excluded, or None if there is none."""
    barred = set(excluded)
    length = low
    while high is None or length <= high:
        # Of one string more than there are excluded ones, at least one is not excluded.
        for number in range(len(barred) + 1):
            text = string_of(length, number)
            if text is None:
                break
            if text not in barred:
                return text
        length += 1
    return None


def fresh_name(names):
    """Return a string that is not in the list."""
    return pick_text(1, None, names)
