"""Seats for guards by their bonds."""

from vaultbridge.errors import InvalidArgument


def shares(bonds, seats):
    """The set of the guards that get seats, with the seats as weights, in ascending order of the names."""
    bonded = sum([bond for _, bond in bonds])
    if seats < 1 or bonded == 0:
        raise InvalidArgument("there are no seats or no bonds")
    rows = sorted(bonds)
    seated = {guard: seats * bond // bonded for guard, bond in rows}
    remainders = {guard: seats * bond % bonded for guard, bond in rows}
    # sorting keeps the order of the names among equal remainders
    by_remainder = sorted(remainders, key=lambda guard: -remainders[guard])
    left = seats - sum(seated.values())
    for guard in by_remainder[:left]:
        seated[guard] += 1
    return tuple([(guard, seated[guard]) for guard in seated if seated[guard] > 0])


def next_set(state, token, seats):
    """The shares by the bonds of a token in a state."""
    return shares([(guard, state.bonded(guard, token)) for guard in state.bonded_guards(token)], seats)
