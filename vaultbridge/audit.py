"""Looking at both ledgers from outside."""

from vaultbridge.statement import statement


def shortfalls(config, west, east):
    """The names of the tokens whose vault has less than the other side says there is, ascending."""
    return [token for token, _, _, spare in statement(config, west, east) if spare < 0]


def open_transfers(west, east):
    """The transfers that were neither delivered nor given back, as pairs of side and number."""
    return open_from("west", west, east) + open_from("east", east, west)


def open_from(side, here, there):
    """Those of them that were sent on one side."""
    numbers = range(len(here.transfers()))
    return [(side, number) for number in numbers
            if there.taken(number) != "delivered" and not here.is_returned(number)]
