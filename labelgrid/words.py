"""The tokens of formulas."""

from labelgrid.addresses import LETTERS, parse_address
from labelgrid.errors import EntryError
from labelgrid.numbers import DIGITS, parse_number

LONGEST_TEXT = 60
LOST = "#REF"
# The longer ones come first, since as many characters as possible are taken.
SIGNS = ("!=", "<=", "+", "-", "*", "/", "&", "=", "<", "(", ")", ",", ":")


def tokens_of(text, at):
    """Return the list of the tokens of a text from an index on."""
    tokens = []
    while at < len(text):
        if text[at] == " ":
            at = at + 1
        else:
            token, at = _token_at(text, at)
            tokens.append(token)
    return tokens


def _token_at(text, at):
    """Return the token that begins at an index, and the index behind it."""
    first = text[at]
    if first in DIGITS or first == ".":
        return _number_at(text, at)
    if first in LETTERS:
        return _word_at(text, at)
    if first == '"':
        return _text_at(text, at)
    end = at + len(LOST)
    if text[at:end] == LOST:
        return ("lost", LOST, at), end
    return _sign_at(text, at)


def _run_end(text, at, characters):
    """Return the index behind the row of such characters that begins at an index."""
    while at < len(text) and text[at] in characters:
        at = at + 1
    return at


def _number_at(text, at):
    end = _run_end(text, at, DIGITS + ".")
    number = parse_number(text[at:end])
    if number is None:
        raise EntryError(at)
    return ("num", number, at), end


def _word_at(text, at):
    end = _run_end(text, at, LETTERS + DIGITS)
    word = text[at:end]
    address = parse_address(word)
    if address is not None:
        return ("ref", address, at), end
    if _run_end(word, 0, LETTERS) < len(word):
        raise EntryError(at)
    return ("word", word, at), end


def _text_at(text, at):
    found = ""
    start = at + 1
    while True:
        end = text.find('"', start)
        if end < 0:
            raise EntryError(at)
        found = found + text[start:end]
        if text[end + 1:end + 2] != '"':
            break
        found = found + '"'
        start = end + 2
    if len(found) > LONGEST_TEXT:
        raise EntryError(at)
    return ("text", found, at), end + 1


def _sign_at(text, at):
    for sign in SIGNS:
        end = at + len(sign)
        if text[at:end] == sign:
            return ("sign", sign, at), end
    raise EntryError(at)
