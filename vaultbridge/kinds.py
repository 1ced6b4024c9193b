"""What numbers, texts, accounts and sides are."""

SIDES = ("west", "east")

ACCOUNT_LENGTH = 20

FIRST_CODE = 32
LAST_CODE = 126
BARRED_CODE = 37


def is_integer(value):
    """True if the value is an integer; True and False are none."""
    return isinstance(value, int) and not isinstance(value, bool)


def is_at_least(value, least):
    """True if the value is an integer that is not less than `least`."""
    return is_integer(value) and value >= least


def is_text(value):
    """True if the value is a text of the allowed characters."""
    if not isinstance(value, str):
        return False
    for char in value:
        code = ord(char)
        if code < FIRST_CODE or code > LAST_CODE or code == BARRED_CODE:
            return False
    return True


def is_short_text(value, most):
    """True if the value is a text of 1 to `most` characters."""
    return is_text(value) and 1 <= len(value) <= most


def is_account(value):
    """True if the value is an account."""
    return is_short_text(value, ACCOUNT_LENGTH)


def is_side(value):
    """True if the value is one of the two sides."""
    return value in SIDES
