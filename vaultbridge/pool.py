"""A pool: assets that belong to those who have shares of them."""

from vaultbridge.errors import InvalidArgument, NotEnoughBalance


class Pool:
    """Assets, and the shares of each account. The assets for a share never fall, so they are never less than one."""

    def __init__(self):
        self._assets = 0
        self._held = {}

    def assets(self):
        """How much the pool has."""
        return self._assets

    def shares(self):
        """How many shares there are."""
        return sum(self._held.values())

    def shares_of(self, account):
        """How many of them an account has."""
        return self._held.get(account, 0)

    def deposit(self, account, amount):
        """Adds an amount; returns how many shares the account gets for it."""
        if amount < 1:
            raise InvalidArgument("an amount is at least 1")
        shares = self.shares()
        count = amount * shares // self._assets if shares > 0 else amount
        if count < 1:
            raise InvalidArgument("the amount is worth no share")
        self._assets += amount
        self._held[account] = self.shares_of(account) + count
        return count

    def redeem(self, account, count):
        """Takes shares back; returns the amount that the account gets for them."""
        if count < 1:
            raise InvalidArgument("a number of shares is at least 1")
        if self.shares_of(account) < count:
            raise NotEnoughBalance("the account has fewer shares")
        amount = count * self._assets // self.shares()
        self._assets -= amount
        self._held[account] -= count
        return amount

    def earn(self, amount):
        """Adds an amount for which nobody gets shares."""
        if amount < 1 or self.shares() == 0:
            raise InvalidArgument("there is nothing to earn, or nobody to earn it")
        self._assets += amount
