"""Texts: items with single blanks between, and the integers from 0 on that stand in them."""

from sevenasone.errors import BadText

MOST_DIGITS = 60


def items_of(text):
    """The items of a text; an empty one is an item, too."""
    if not isinstance(text, str):
        raise BadText(0, 0)
    return text.split(" ")


def number_text(number):
    """The digits of a number from 0 on.

    Python itself does not write a number of several thousand digits at once.
    """
    pieces = []
    while number >= 10 ** 60:
        pieces.append(str(number % 10 ** 60).zfill(60))
        number = number // 10 ** 60
    return str(number) + "".join(pieces[::-1])


def number_in(digits):
    """The number from 0 on that is written so, of any size; None for what is written otherwise."""
    if not (digits.isascii() and digits.isdigit()) or (digits != "0" and digits.startswith("0")):
        return None
    # Python itself does not read several thousand digits at once.
    ahead = len(digits) % 60
    number = int("0" + digits[:ahead])
    for start in range(ahead, len(digits), 60):
        number = number * 10 ** 60 + int(digits[start:start + 60])
    return number


def count_in(item):
    """The number from 0 on that the item is; None for another item, and for too many digits."""
    if len(item) > MOST_DIGITS:
        return None
    return number_in(item)
