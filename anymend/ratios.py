"""Exact fractions and their texts."""

from math import gcd

from anymend.errors import BadNumber, BadText
from anymend.kinds import is_whole

PART_DIGITS = 60
PART = 10 ** 60


def is_ratio(value):
    """Whether a value is an integer, or a pair of integers with the second above 0."""
    if not isinstance(value, tuple):
        return is_whole(value)
    return len(value) == 2 and is_whole(value[0]) and is_whole(value[1]) and value[1] > 0


def lowest(ratio):
    """The pair in lowest terms of a ratio in any terms."""
    if not isinstance(ratio, tuple):
        return (ratio, 1)
    top, bottom = ratio
    shared = gcd(top, bottom)
    return (top // shared, bottom // shared)


def ratio_of(text):
    """The ratio that a text tells, in lowest terms."""
    if not isinstance(text, str):
        raise BadText(0, 0)
    start = 1 if text.startswith("-") else 0
    slash = end_of_digits(text, start)
    top = number_of(text[start:slash])
    if start == 1:
        top = -top
    if slash == len(text):
        return (top, 1)
    if text[slash] != "/":
        raise BadText(1, slash + 1)
    end = end_of_digits(text, slash + 1)
    if end < len(text):
        raise BadText(1, end + 1)
    bottom = number_of(text[slash + 1:end])
    if bottom == 0:
        raise BadText(1, slash + 2)
    return lowest((top, bottom))


def end_of_digits(text, start):
    """The index behind the row of digits from start on; BadText if none stands there."""
    end = start
    # Not isdigit: it also takes digits of other scripts.
    while end < len(text) and "0" <= text[end] <= "9":
        end += 1
    if end == start:
        raise BadText(1, start + 1)
    return end


def number_of(digits):
    """The number of a row of digits."""
    # Digit by digit, since int refuses rows of some thousand digits.
    number = 0
    for digit in digits:
        number = number * 10 + int(digit)
    return number


def ratio_text(ratio):
    """The shortest text of a ratio: that of its lowest terms."""
    if not is_ratio(ratio):
        raise BadNumber("ratio", ratio)
    top, bottom = lowest(ratio)
    sign = "-" if top < 0 else ""
    if bottom == 1:
        return sign + digits_of(abs(top))
    return sign + digits_of(abs(top)) + "/" + digits_of(bottom)


def digits_of(number):
    """The digits of a number from 0 on."""
    # Part by part, since str refuses numbers of some thousand digits.
    parts = []
    ahead = number
    while ahead >= PART:
        ahead, part = divmod(ahead, PART)
        parts.append(str(part).zfill(PART_DIGITS))
    parts.append(str(ahead))
    return "".join(reversed(parts))
