"""The sheet of a ledger: balances, bonds and vaults."""

from vaultbridge.errors import NotEnoughBalance


class Sheet:
    """Who has how much on one side. Balances and bonds stand in tables by token and then by name."""

    def __init__(self, config, side):
        self._config = config
        self._side = side
        self._balances = {}
        self._bonds = {}
        self._vaults = {}
        for account, token, amount in config.opening(side):
            put(self._balances, token, account, amount)

    def copy(self):
        """Returns a sheet with the same amounts, which is independent from then on."""
        other = Sheet(self._config, self._side)
        other._balances = copied(self._balances)
        other._bonds = copied(self._bonds)
        other._vaults = dict(self._vaults)
        return other

    def balance(self, account, token):
        """What an account has of a token."""
        return held(self._balances, token, account)

    def vault(self, token):
        """What lies in the vault of a token."""
        return self._vaults.get(token, 0)

    def bonded(self, guard, token):
        """The bond of a guard in a token."""
        return held(self._bonds, token, guard)

    def bonders(self, token):
        """The guards whose bond of the token is above 0, ascending."""
        rows = self._bonds.get(token, {})
        return sorted([guard for guard in rows if rows[guard] > 0])

    def circulating(self, token):
        """The sum of all balances and bonds of a token."""
        balances = self._balances.get(token, {})
        bonds = self._bonds.get(token, {})
        return sum(balances.values()) + sum(bonds.values())

    def move(self, sender, receiver, token, amount):
        """Moves an amount from one account to another one, or to itself."""
        draw(self._balances, token, sender, amount)
        put(self._balances, token, receiver, amount)

    def lock(self, account, token, units):
        """Moves units from an account into the vault of a token whose home is this side."""
        amount = units * self._config.scale(token)
        draw(self._balances, token, account, amount)
        self._vaults[token] = self.vault(token) + amount

    def release(self, account, token, units):
        """Moves units from the vault to an account."""
        amount = units * self._config.scale(token)
        if self.vault(token) < amount:
            raise NotEnoughBalance("the vault has less")
        self._vaults[token] = self.vault(token) - amount
        put(self._balances, token, account, amount)

    def mint(self, account, token, units):
        """Adds units of a token whose home is the other side to a balance."""
        put(self._balances, token, account, units)

    def burn(self, account, token, units):
        """Takes units of a token whose home is the other side from a balance."""
        draw(self._balances, token, account, units)

    def bond(self, guard, token, amount):
        """Moves an amount from the balance of a guard to its bond."""
        draw(self._balances, token, guard, amount)
        put(self._bonds, token, guard, amount)

    def unbond(self, guard, token, amount):
        """Moves an amount from the bond of a guard to its balance."""
        draw(self._bonds, token, guard, amount)
        put(self._balances, token, guard, amount)


def copied(table):
    """A copy of a table, the rows of its tokens included."""
    return {token: dict(table[token]) for token in table}


def held(table, token, name):
    """What somebody has of a token in a table."""
    return table.get(token, {}).get(name, 0)


def put(table, token, name, amount):
    """Adds an amount in a table."""
    rows = table.setdefault(token, {})
    rows[name] = rows.get(name, 0) + amount


def draw(table, token, name, amount):
    """Takes an amount away in a table."""
    if held(table, token, name) < amount:
        raise NotEnoughBalance("there is less of the token")
    put(table, token, name, -amount)
