"""Commands of scripts: reading them, and writing deeds."""

from labelgrid.addresses import parse_address, parse_range, show_address, show_range
from labelgrid.numbers import all_digits
from labelgrid.trees import RELEASED

MOST_USERS = 12
MOST_DIGITS = 3
NOBODY = "-"
# What stands behind the word of each deed.
FORMS = {
    "set": ("address", "text"),
    "undo": ("address",),
    "read": ("range",),
    "entry": ("address",),
    "why": ("address",),
    "rule": ("range", "users", "users", "users"),
    "grant": ("range", "functions", "users"),
    "revoke": ("number",),
    "follow": ("range",),
    "notices": (),
    "audit": (),
}


def parse_count(text):
    """Return the number of a text, or None."""
    if not 1 <= len(text) <= MOST_DIGITS or not all_digits(text):
        return None
    return int(text) if text == "0" or text[0] != "0" else None


def parse_users(text, count):
    """Return the list of the users of a text, of so many, or None."""
    if text == NOBODY:
        return []
    users = [parse_count(word) for word in text.split(",")]
    if None in users or users[-1] >= count:
        return None
    return users if all([user < other for user, other in zip(users, users[1:])]) else None


def show_users(users):
    """Return the text of a list of users."""
    return ",".join([str(user) for user in users]) if users else NOBODY


def parse_functions(text):
    """Return the list of the released functions of a text, or None."""
    functions = text.split(",")
    if not all([function in RELEASED for function in functions]):
        return None
    return functions if len(set(functions)) == len(functions) else None


def _parse_part(kind, text, count):
    """Return the part of a deed that a word stands for, or None; there are so many users."""
    if kind == "address":
        return parse_address(text)
    if kind == "range":
        return parse_range(text)
    if kind == "users":
        return parse_users(text, count)
    if kind == "functions":
        return parse_functions(text)
    return parse_count(text)


def _show_part(kind, part):
    """Return the word that stands for a part of a deed."""
    if kind == "address":
        return show_address(part)
    if kind == "range":
        return show_range(part)
    if kind == "users":
        return show_users(part)
    if kind == "functions":
        return ",".join(part)
    return str(part)


def _parse_set(words):
    """Return the "set" of some words, of which the third one is the text, or None."""
    address = parse_address(words[1]) if len(words) > 1 else None
    if address is None:
        return None
    return ("set", address, words[2] if len(words) > 2 else "")


def _parse_deed(words, count):
    """Return the deed of some words, or None."""
    if not words or words[0] not in FORMS or len(words) != len(FORMS[words[0]]) + 1:
        return None
    parts = [_parse_part(kind, word, count) for kind, word in zip(FORMS[words[0]], words[1:])]
    return None if None in parts else (words[0],) + tuple(parts)


def show_deed(deed):
    """Return a deed as it is written in a script."""
    return " ".join([deed[0]] + [_show_part(kind, part) for kind, part in zip(FORMS[deed[0]], deed[1:])])


def parse_book(words):
    """Return the number of users of the command of a new book, or None."""
    users = parse_count(words[1]) if len(words) == 2 else None
    return users if users is not None and 1 <= users <= MOST_USERS else None


def parse_operation(line, count):
    """Return the pair of a user and a deed of a line, or None; there are so many users."""
    words = line.split(" ")
    user = parse_count(words[0])
    if user is None or user >= count:
        return None
    if words[1:2] == ["set"]:
        # The spaces of the text are its own.
        deed = _parse_set(line.split(" ", 3)[1:])
    else:
        deed = _parse_deed(words[1:], count)
    return None if deed is None else (user, deed)
