"""Scripts: commands, a line each, and the lines that they put out."""

from labelgrid.addresses import show_address
from labelgrid.commands import parse_book, parse_operation, show_deed, show_users
from labelgrid.desk import Desk
from labelgrid.edits import empty_book
from labelgrid.errors import CommandError
from labelgrid.functions import text_in
from labelgrid.releases import releases
from labelgrid.visible import DENIED


def _seen_text(value):
    """Return how what a user sees is written."""
    if value == DENIED:
        return "#DENIED"
    if value is not None and value[0] == "error":
        return f"#{value[1].upper()}"
    if value is not None and value[0] == "text":
        return f"'{value[1]}"
    return text_in(value)


def _item_text(kind, item):
    """Return the line for an item of an answer."""
    if kind == "values":
        return _seen_text(item)
    if kind == "notices":
        return f"{show_address(item[0])} {_seen_text(item[1])}"
    if kind == "audit":
        return f"{item[0]} {show_deed(item[1])}"
    return show_address(item)


def _answer_lines(answer):
    """Return the lines for an answer."""
    kind = answer[0]
    if kind in ("values", "notices", "audit", "way"):
        return [f"{kind} {len(answer[1])}"] + [_item_text(kind, item) for item in answer[1]]
    return [" ".join([str(word) for word in answer])]


def _release_lines(book):
    """Return the lines for the releases of a book."""
    return ["releases"] + [f"{show_address(address)} {node} {index} {show_users(users)}"
                           for address, node, index, users in releases(book)]


def run_script(text):
    """Return the list of the output lines of a script."""
    desk = Desk(empty_book(1))
    output = []
    for number, line in enumerate(text.split("\n"), start=1):
        words = line.split(" ")
        if line == "":
            continue
        if line == "releases":
            output.extend(_release_lines(desk.book))
        elif words[0] == "book":
            users = parse_book(words)
            if users is None:
                raise CommandError(number)
            desk = Desk(empty_book(users))
            output.append(line)
        else:
            operation = parse_operation(line, desk.book[1])
            if operation is None:
                raise CommandError(number)
            output.extend(_answer_lines(desk.perform(operation[0], operation[1])))
    return output
