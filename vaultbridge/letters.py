"""Transfers and letters: which tuples are well formed."""

from vaultbridge.kinds import is_account, is_at_least, is_side, is_text
from vaultbridge.sets import is_set

ABOUT_ONE = ("deliver", "return", "cancel")
ABOUT_ALL = ("stop", "resume")
MOST_TRANSFERS = 8


def is_transfer(value):
    """True if the tuple is a transfer."""
    if not isinstance(value, tuple) or len(value) != 6:
        return False
    token, units, fee, sender, receiver, deadline = value
    if not is_text(token) or not is_account(sender) or not is_account(receiver):
        return False
    return is_at_least(units, 1) and is_at_least(fee, 0) and fee <= units and is_at_least(deadline, 0)


def is_bundle(value):
    """True if the value is a tuple of as many transfers as a bundle may have."""
    if not isinstance(value, tuple) or not 1 <= len(value) <= MOST_TRANSFERS:
        return False
    return all([is_transfer(part) for part in value])


def is_letter(value):
    """True if the tuple is a well formed letter."""
    if not isinstance(value, tuple) or len(value) != 4:
        return False
    kind, side, number, body = value
    if kind == "rotate":
        return side == "both" and is_at_least(number, 1) and is_set(body)
    if not is_side(side) or not is_at_least(number, 0):
        return False
    if kind in ABOUT_ONE:
        return is_transfer(body)
    if kind == "bundle":
        return is_bundle(body)
    return kind in ABOUT_ALL and body == ()


def key(letter):
    """The key of a well formed letter."""
    return letter[:3]
