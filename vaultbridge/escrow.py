"""Escrows: amounts that are kept under locks."""

from vaultbridge.errors import AlreadyTaken, InvalidArgument, NotEnoughWeight, TooEarly, UnknownTransfer


class Locks:
    """A table of made-up locks, one for each secret."""

    def __init__(self):
        self._numbers = {}

    def lock(self, secret):
        """The number of the lock of a secret, which gets one if it has none."""
        return self._numbers.setdefault(secret, len(self._numbers))

    def opens(self, number, secret):
        """True if the secret opens the lock."""
        return self._numbers.get(secret) == number


class Escrow:
    """Keeps amounts, each until a height: up to it for whoever has the secret, and then for the owner."""

    def __init__(self, locks):
        self._locks = locks
        self._rows = []
        self._left = {}

    def keep(self, owner, receiver, amount, lock, height):
        """Keeps an amount; returns its number."""
        if amount < 1:
            raise InvalidArgument("an amount is at least 1")
        number = len(self._rows)
        self._rows.append((owner, receiver, amount, lock, height))
        self._left[number] = amount
        return number

    def show(self, number, secret, height):
        """Lets the receiver have an amount, since its secret is shown; returns the receiver and the amount."""
        _, receiver, amount, lock, last = self._find(number)
        if height > last:
            raise TooEarly("it is too late to show the secret")
        if not self._locks.opens(lock, secret):
            raise NotEnoughWeight("the secret does not open the lock")
        del self._left[number]
        return (receiver, amount)

    def give_back(self, number, height):
        """Lets the owner have an amount; returns the owner and the amount."""
        owner, _, amount, _, last = self._find(number)
        if height <= last:
            raise TooEarly("the amount is kept longer")
        del self._left[number]
        return (owner, amount)

    def kept(self):
        """The sum of the amounts that are still kept."""
        return sum(self._left.values())

    def _find(self, number):
        """What is kept under a number; raises UnknownTransfer, and AlreadyTaken if it was had before."""
        if not 0 <= number < len(self._rows):
            raise UnknownTransfer("there is no such amount")
        if number not in self._left:
            raise AlreadyTaken("the amount was had before")
        return self._rows[number]
