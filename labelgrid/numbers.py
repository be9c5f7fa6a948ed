"""Numbers: integers that count ten-thousandths."""

UNIT = 10000
MOST = 1000000000000000
PLACES = 4
DIGITS = "0123456789"


def rounded(a, b):
    """Return the integer nearest to a / b, halves away from 0; b is greater than 0."""
    if a < 0:
        return -((b - 2 * a) // (2 * b))
    return (b + 2 * a) // (2 * b)


def number_value(n):
    """Return the value of a result: the number, or the error "range" if it is none."""
    if -MOST <= n <= MOST:
        return ("num", n)
    return ("error", "range")


def add(a, b):
    """Return the value of the sum of two numbers."""
    return number_value(a + b)


def times(a, b):
    """Return the value of the product of two numbers."""
    return number_value(rounded(a * b, UNIT))


def over(a, b):
    """Return the value of the quotient of two numbers."""
    if b == 0:
        return ("error", "zero")
    if b < 0:
        return number_value(rounded(-a * UNIT, -b))
    return number_value(rounded(a * UNIT, b))


def to_places(n, places):
    """Return the value of a number rounded to so many places, from -6 to 4."""
    step = 1
    for _ in range(PLACES - places):
        step = step * 10
    return number_value(rounded(n, step) * step)


def show_number(n):
    """Return the text of a number."""
    sign = "-" if n < 0 else ""
    whole = abs(n) // UNIT
    behind = str(abs(n) % UNIT).zfill(PLACES).rstrip("0")
    if behind == "":
        return f"{sign}{whole}"
    return f"{sign}{whole}.{behind}"


def all_digits(text):
    """Return whether all characters of a text are among 0 to 9."""
    # isdigit would also take digits of other scripts.
    return all([character in DIGITS for character in text])


def _is_whole(text):
    """Return whether a text is a whole part that a number may have."""
    # A longer one is beyond the range, whatever its digits are.
    if text == "" or len(text) > len(str(MOST)):
        return False
    return all_digits(text) and (text == "0" or text[0] != "0")


def parse_number(text):
    """Return the number of a text, or None."""
    digits = text.removeprefix("-")
    whole, point, behind = digits.partition(".")
    if not _is_whole(whole):
        return None
    if point != "" and not (1 <= len(behind) <= PLACES and all_digits(behind)):
        return None
    n = int(whole) * UNIT + int(behind.ljust(PLACES, "0"))
    if n > MOST:
        return None
    if digits == text:
        return n
    return -n if n > 0 else None
