"""A judge: finds the first claim about a ledger that is wrong."""

from vaultbridge.gateway import after_block
from vaultbridge.state import opening_state


def judge(config, notary, side, claims):
    """The index of the block and that of the first claim that is wrong, or None if all claims are right."""
    state = opening_state(config, side)
    for block, (orders, claimed) in enumerate(claims):
        state, _, receipts = after_block(config, notary, state, orders)
        index = first_difference(receipts, list(claimed))
        if index is not None:
            return (block, index)
    return None


def first_difference(xs, ys):
    """The first index at which two lists differ, or at which only one of them has something; otherwise None."""
    for index in range(max(len(xs), len(ys))):
        if xs[index:index + 1] != ys[index:index + 1]:
            return index
    return None
