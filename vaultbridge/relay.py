"""What a relayer can bring to a ledger with the seals that it has."""

from vaultbridge.errors import BridgeError
from vaultbridge.gateway import outcome


def seals_by_letter(notary, seals):
    """The numbers of the seals for each letter, each once and ascending, in the order of the smallest numbers."""
    found = {}
    before = None
    for number in sorted(seals):
        if number != before:
            _, letter = notary.shown(number)
            found.setdefault(letter, []).append(number)
        before = number
    return found


def successes(config, notary, state, orders):
    """Those of the orders that raise no error, each on the state that those before it leave, and the last state."""
    found = []
    for order in orders:
        try:
            state, _ = outcome(config, notary, state, order)
            found.append(order)
        except BridgeError:
            continue
    return (found, state)


def ready_orders(config, notary, state, relayer, seals):
    """The orders that bring letters or claim transfers and would succeed, one after the other."""
    groups = seals_by_letter(notary, seals)
    takes = [("take", relayer, letter, tuple(groups[letter])) for letter in groups]
    taken, state = successes(config, notary, state, takes)
    claims = [("claim", relayer, number) for number in state.waiting()]
    claimed, _ = successes(config, notary, state, claims)
    return taken + claimed
