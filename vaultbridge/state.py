"""The state of a ledger after a block."""

from vaultbridge.errors import WrongNumber
from vaultbridge.sheet import Sheet

DELIVERED = "delivered"
REFUSED = "refused"
WAITING = "waiting"


class State:
    """What a ledger knows after a block. Transfers from the other side go by their numbers there.

    The methods that change a state are for the gateway, which calls them on copies of its own.
    """

    def __init__(self, config, side, sheet):
        self._config = config
        self._side = side
        self._sheet = sheet
        self._height = 0
        self._sets = [config.guards()]
        self._stops = 0
        self._stopped = False
        self._transfers = []
        self._returned = {}
        self._taken = {}
        self._waiting = {}
        self._deliveries = []

    def copy(self):
        """Returns an equal state, which is independent from then on."""
        other = State(self._config, self._side, self._sheet.copy())
        other._height = self._height
        other._sets = list(self._sets)
        other._stops = self._stops
        other._stopped = self._stopped
        other._transfers = list(self._transfers)
        other._returned = dict(self._returned)
        other._taken = dict(self._taken)
        other._waiting = dict(self._waiting)
        other._deliveries = list(self._deliveries)
        return other

    def side(self):
        """The side of the ledger."""
        return self._side

    def height(self):
        """The height of the block."""
        return self._height

    def epoch(self):
        """The number of the set in use."""
        return len(self._sets) - 1

    def is_stopped(self):
        """True if the gateway is stopped."""
        return self._stopped

    def stops(self):
        """The number of stops so far."""
        return self._stops

    def balance(self, account, token):
        """What an account has of a token."""
        return self._sheet.balance(account, token)

    def bonded(self, guard, token):
        """The bond of a guard in a token."""
        return self._sheet.bonded(guard, token)

    def vault(self, token):
        """What lies in the vault of a token."""
        return self._sheet.vault(token)

    def circulating(self, token):
        """The sum of all balances and bonds of a token."""
        return self._sheet.circulating(token)

    def guards(self, epoch):
        """The set of an epoch."""
        if not 0 <= epoch < len(self._sets):
            raise WrongNumber("there is no such epoch")
        return self._sets[epoch]

    def transfers(self):
        """The transfers that were sent on this side, in the order of their numbers."""
        return list(self._transfers)

    def taken(self, number):
        """What became of a transfer from the other side: delivered, refused, waiting, or None."""
        return self._taken.get(number)

    def bonded_guards(self, token):
        """The guards whose bond of the token is above 0, ascending."""
        self._config.check_token(token)
        return self._sheet.bonders(token)

    def waiting(self):
        """The numbers of the transfers from the other side that wait here, ascending."""
        return sorted(self._waiting)

    def is_returned(self, number):
        """True if the transfer that was sent on this side was given back."""
        return number in self._returned

    def sheet(self):
        """The sheet itself, no copy of it."""
        return self._sheet

    def sent(self, number):
        """The transfer with this number that was sent on this side, or None."""
        return self._transfers[number] if 0 <= number < len(self._transfers) else None

    def held(self, number):
        """The transfer with this number that waits here, or None."""
        return self._waiting[number][0] if number in self._waiting else None

    def claim_height(self, number):
        """The height from which a transfer that waits here may be claimed."""
        return self._waiting[number][1]

    def units_delivered(self, token, above):
        """The units of a token that were delivered at heights greater than `above`."""
        found = 0
        for height, name, units in reversed(self._deliveries):
            # heights never fall from one delivery to the next
            if height <= above:
                break
            if name == token:
                found += units
        return found

    def rise(self):
        """Makes the height greater by one."""
        self._height += 1

    def add_transfer(self, transfer):
        """Adds a transfer that is sent on this side; returns its number."""
        self._transfers.append(transfer)
        return len(self._transfers) - 1

    def hold(self, number, transfer, height):
        """Lets a transfer from the other side wait; it may be claimed from the height on."""
        self._taken[number] = WAITING
        self._waiting[number] = (transfer, height)

    def refuse(self, number):
        """Marks a transfer from the other side as refused; it does not wait any more."""
        self._taken[number] = REFUSED
        self._waiting.pop(number, None)

    def deliver(self, number, token, units):
        """Marks a transfer from the other side as delivered; it does not wait any more."""
        self._taken[number] = DELIVERED
        self._waiting.pop(number, None)
        self._deliveries.append((self._height, token, units))

    def give_back(self, number):
        """Marks a transfer that was sent on this side as given back."""
        self._returned[number] = True

    def rotate(self, guards):
        """Begins the next epoch with its set."""
        self._sets.append(guards)

    def stop(self):
        """Stops the gateway."""
        self._stops += 1
        self._stopped = True

    def resume(self):
        """Lets the gateway go on."""
        self._stopped = False


def opening_state(config, side):
    """Returns the state after the first block."""
    return State(config, side, Sheet(config, side))
