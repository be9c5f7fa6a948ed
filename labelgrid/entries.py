"""Entries: what users type into cells."""

from labelgrid.errors import EntryError
from labelgrid.numbers import parse_number, show_number
from labelgrid.trees import TRUTHS, parse_formula, show_formula
from labelgrid.words import LONGEST_TEXT

LONGEST_ENTRY = 400


def parse_entry(text):
    """Return what an entry is: None, a formula or a value."""
    if len(text) > LONGEST_ENTRY:
        raise EntryError(LONGEST_ENTRY)
    if text == "":
        return None
    if text[0] == "=":
        return ("formula", parse_formula(text, 1))
    constant = _constant_of(text)
    if constant is not None:
        return ("value", constant)
    plain = text.removeprefix("'")
    if len(plain) > LONGEST_TEXT:
        raise EntryError(len(text) - len(plain) + LONGEST_TEXT)
    return ("value", ("text", plain))


def is_entry(text):
    """Return whether a text is an entry or empty."""
    try:
        parse_entry(text)
    except EntryError:
        return False
    return True


def _constant_of(text):
    """Return the truth or number of a text, or None."""
    if text in TRUTHS:
        return ("bool", TRUTHS[text])
    number = parse_number(text)
    return None if number is None else ("num", number)


def show_entry(parsed):
    """Return the text that an entry is shown as."""
    if parsed is None:
        return ""
    kind, what = parsed
    if kind == "formula":
        return f"={show_formula(what)}"
    if what[0] == "num":
        return show_number(what[1])
    if what[0] == "bool":
        return "TRUE" if what[1] else "FALSE"
    text = what[1]
    if text == "" or text[0] in "='" or _constant_of(text) is not None:
        return f"'{text}"
    return text


def canonical(text):
    """Return the shown entry of what an entry is."""
    return show_entry(parse_entry(text))
