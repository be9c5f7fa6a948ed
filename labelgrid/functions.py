"""Values, and what operators and functions make of them."""

from labelgrid.numbers import UNIT, add, number_value, over, rounded, show_number, times, to_places
from labelgrid.trees import RELEASED
from labelgrid.words import LONGEST_TEXT

WRONG_VALUE = ("error", "value")
BLANKS = {"num": 0, "text": "", "bool": False}
LEAST_PLACES = -6
MOST_PLACES = 4


def is_error(value):
    """Return whether a value is an error."""
    return value is not None and value[0] == "error"


def number_in(value):
    """Return the number of a value where one is needed, or None if it has none."""
    if value is None:
        return 0
    return value[1] if value[0] == "num" else None


def whole_in(value):
    """Return the whole number of a value where a number is needed, or None if it is none."""
    n = number_in(value)
    if n is None or n % UNIT != 0:
        return None
    return n // UNIT


def truth_in(value):
    """Return the truth of a value where one is needed, or None if it has none."""
    if value is None:
        return False
    return value[1] if value[0] == "bool" else None


def text_in(value):
    """Return the text of a value."""
    if value is None:
        return ""
    if value[0] == "num":
        return show_number(value[1])
    if value[0] == "bool":
        return "TRUE" if value[1] else "FALSE"
    return value[1]


def text_value(text):
    """Return the value of a text, which is an error if it is too long."""
    if len(text) > LONGEST_TEXT:
        return ("error", "range")
    return ("text", text)


def apply_operator(sign, a, b):
    """Return the value of an operation."""
    if is_error(a):
        return a
    if is_error(b):
        return b
    if sign == "&":
        return text_value(text_in(a) + text_in(b))
    if sign == "=":
        return ("bool", a == b)
    if sign == "!=":
        return ("bool", a != b)
    if sign == "<" or sign == "<=":
        return _compared(sign, a, b)
    return _calculated(sign, number_in(a), number_in(b))


def _calculated(sign, a, b):
    """Return the value of an operation on numbers; None stands for what is none."""
    if a is None or b is None:
        return WRONG_VALUE
    if sign == "+":
        return add(a, b)
    if sign == "-":
        return add(a, -b)
    if sign == "*":
        return times(a, b)
    return over(a, b)


def _compared(sign, a, b):
    """Return whether a value is less than another one, or for the other sign not greater."""
    if a is None and b is None:
        return ("bool", sign == "<=")
    left = _beside(a, b)
    right = _beside(b, a)
    if left[0] != right[0]:
        return WRONG_VALUE
    if sign == "<":
        return ("bool", left[1] < right[1])
    return ("bool", left[1] <= right[1])


def _beside(value, other):
    """Return a value, or what a blank stands for beside another value."""
    if value is None:
        return (other[0], BLANKS[other[0]])
    return value


def negated(value):
    """Return the value of a minus sign in front of a value."""
    if is_error(value):
        return value
    n = number_in(value)
    return WRONG_VALUE if n is None else number_value(-n)


def _sum_of(numbers):
    return number_value(sum(numbers))


def _count_of(numbers):
    return ("num", len(numbers) * UNIT)


def _average_of(numbers):
    if not numbers:
        return ("error", "zero")
    return number_value(rounded(sum(numbers), len(numbers)))


def _least_of(numbers):
    return ("num", min(numbers, default=0))


def _greatest_of(numbers):
    return ("num", max(numbers, default=0))


def _not_of(value):
    truth = truth_in(value)
    return WRONG_VALUE if truth is None else ("bool", not truth)


def _length_of(value):
    return ("num", len(text_in(value)) * UNIT)


def _left_of(value, size):
    count = whole_in(size)
    if count is None or count < 0:
        return WRONG_VALUE
    return text_value(text_in(value)[:count])


def _size_of(value):
    n = number_in(value)
    return WRONG_VALUE if n is None else number_value(abs(n))


def _round_of(value, size):
    n = number_in(value)
    places = whole_in(size)
    if n is None or places is None or not LEAST_PLACES <= places <= MOST_PLACES:
        return WRONG_VALUE
    return to_places(n, places)


NUMERIC = {"SUM": _sum_of, "COUNT": _count_of, "AVG": _average_of, "MIN": _least_of, "MAX": _greatest_of}
SINGLE = {"NOT": _not_of, "LEN": _length_of, "ABS": _size_of}
DOUBLE = {"LEFT": _left_of, "ROUND": _round_of}


def _values_in(args):
    """Return all values of arguments, in order."""
    values = []
    for kind, what in args:
        if kind == "many":
            values.extend(what)
        else:
            values.append(what)
    return values


def _numeric(name, args):
    """Return the value of a call of a function of numbers."""
    numbers = []
    for kind, what in args:
        if kind == "many":
            numbers.extend([value[1] for value in what if value is not None and value[0] == "num"])
        else:
            numbers.append(number_in(what))
    if None in numbers:
        return WRONG_VALUE
    action = NUMERIC[name]
    return action(numbers)


def _logical(name, args):
    """Return the value of AND or OR."""
    truths = []
    for kind, what in args:
        if kind == "many":
            truths.extend([truth_in(value) for value in what if value is not None])
        else:
            truths.append(truth_in(what))
    if None in truths:
        return WRONG_VALUE
    return ("bool", all(truths) if name == "AND" else any(truths))


def apply_function(name, args):
    """Return the value of a call of a function but IF."""
    values = _values_in(args)
    errors = [value for value in values if is_error(value)]
    if errors:
        return errors[0]
    if name in RELEASED:
        return _numeric(name.removeprefix("R"), args)
    if name in NUMERIC:
        return _numeric(name, args)
    if name == "AND" or name == "OR":
        return _logical(name, args)
    if name == "JOIN":
        return text_value("".join([text_in(value) for value in values]))
    if name in SINGLE:
        action = SINGLE[name]
        return action(values[0])
    action = DOUBLE[name]
    return action(values[0], values[1])
