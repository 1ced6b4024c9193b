"""The configuration of a bridge."""

from vaultbridge.errors import InvalidArgument, UnknownToken
from vaultbridge.kinds import is_account, is_at_least, is_short_text, is_side
from vaultbridge.sets import is_set

TOKEN_LENGTH = 12
MOST_IN_BUNDLE = 8


def other_side(side):
    """The other side's name."""
    return "east" if side == "west" else "west"


class Config:
    """What is settled before the first block: tokens, balances, guards and a few numbers."""

    def __init__(self, *, tokens, balances, guards, depth=2, window=4, delay=2, bundle=4):
        check_list("tokens", tokens)
        check_list("balances", balances)
        self._tokens = {}
        for row in tokens:
            check_token_row(row)
            if row[0] in self._tokens:
                raise InvalidArgument("a token occurs twice")
            self._tokens[row[0]] = row
        for row in balances:
            check_balance_row(row, self._tokens)
        if not is_set(guards):
            raise InvalidArgument("the guards are no set")
        check_least("depth", depth, 1)
        check_least("window", window, 1)
        check_least("delay", delay, 0)
        check_least("bundle", bundle, 1)
        if bundle > MOST_IN_BUNDLE:
            raise InvalidArgument("bundle is too great")
        self._balances = list(balances)
        self._guards = guards
        self._depth = depth
        self._window = window
        self._delay = delay
        self._bundle = bundle

    def token_names(self):
        """The names of the tokens, ascending."""
        return sorted(self._tokens)

    def check_token(self, token):
        """Raises UnknownToken if there is no such token."""
        if token not in self._tokens:
            raise UnknownToken("there is no such token")

    def home(self, token):
        """The side that is the home of a token."""
        self.check_token(token)
        return self._tokens[token][1]

    def scale(self, token):
        """How many home units of a token are one unit on the other side."""
        self.check_token(token)
        return self._tokens[token][2]

    def limit(self, token):
        """How many units of a token may be delivered in a window."""
        self.check_token(token)
        return self._tokens[token][3]

    def large(self, token):
        """From how many units on a transfer of a token waits on arrival."""
        self.check_token(token)
        return self._tokens[token][4]

    def opening(self, side):
        """The opening balances of the tokens whose home is the side, as they were given."""
        return [row for row in self._balances if self.home(row[1]) == side]

    def guards(self):
        """The first set of guards."""
        return self._guards

    def depth(self):
        """How far below another block a block is deep."""
        return self._depth

    def window(self):
        """Over how many heights the limits count."""
        return self._window

    def delay(self):
        """For how many heights a large transfer waits."""
        return self._delay

    def bundle(self):
        """How many transfers the guards put into a bundle."""
        return self._bundle


def check_list(name, value):
    """Raises InvalidArgument unless the value is a list."""
    if not isinstance(value, list):
        raise InvalidArgument(f"{name} is no list")


def check_least(name, value, least):
    """Raises InvalidArgument unless the value is an integer of at least `least`."""
    if not is_at_least(value, least):
        raise InvalidArgument(f"{name} is no integer of at least {least}")


def check_token_row(row):
    """Raises InvalidArgument unless the row describes a token."""
    if not isinstance(row, tuple) or len(row) != 5:
        raise InvalidArgument("a token is no tuple of five parts")
    name, home, scale, limit, large = row
    if not is_short_text(name, TOKEN_LENGTH):
        raise InvalidArgument("the name of a token is malformed")
    if not is_side(home):
        raise InvalidArgument("the home of a token is no side")
    check_least("scale", scale, 1)
    check_least("limit", limit, 0)
    check_least("large", large, 1)


def check_balance_row(row, tokens):
    """Raises InvalidArgument unless the row is an opening balance of a known token."""
    if not isinstance(row, tuple) or len(row) != 3:
        raise InvalidArgument("a balance is no tuple of three parts")
    account, token, amount = row
    if not is_account(account):
        raise InvalidArgument("the account of a balance is malformed")
    if not is_short_text(token, TOKEN_LENGTH) or token not in tokens:
        raise InvalidArgument("the token of a balance is unknown")
    check_least("amount", amount, 0)
