"""What the modules of the package ask of the values that they are given."""

from fillorder.errors import InvalidAmount

LARGEST_AMOUNT = 10 ** 9
DIGITS = "0123456789"
# No number in a text is larger than 1000000. Python refuses to read very long ones.
MOST_DIGITS = 7


def in_range(value, low, high):
    """Tell whether the value is an integer (not True or False) from low to high."""
    return isinstance(value, int) and not isinstance(value, bool) and low <= value <= high


def check_amount(value):
    """Raise InvalidAmount if the value is not an amount."""
    if not in_range(value, 0, LARGEST_AMOUNT):
        raise InvalidAmount(f"an amount is an integer from 0 to {LARGEST_AMOUNT}")


def is_number(word):
    """Tell whether the string is a number as texts contain it, without leading zeros."""
    if not 1 <= len(word) <= MOST_DIGITS:
        return False
    # Not isdigit, which is also true of digits other than 0 to 9.
    if not all([sign in DIGITS for sign in word]):
        return False
    return word == "0" or word[0] != "0"
