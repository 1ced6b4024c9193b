"""Statements: what lies in the vaults, and what there is of it on the other sides."""

from vaultbridge.errors import BadNotation
from vaultbridge.kinds import is_at_least
from vaultbridge.notation import read, write


def statement(config, west, east):
    """The rows for all tokens, each with the token, its vault, its units on the other side, and the spare."""
    rows = []
    for token in config.token_names():
        home, away = (west, east) if config.home(token) == "west" else (east, west)
        rows.append(stated(config, token, home.vault(token), away.circulating(token)))
    return tuple(rows)


def stated(config, token, vault, away):
    """The row for a token with so much in its vault and so many units on the other side."""
    return (token, vault, away, vault - away * config.scale(token))


def write_statement(rows):
    """The written form of a statement."""
    return write(rows)


def read_statement(config, text):
    """The statement that a text tells."""
    rows = read(text)
    names = config.token_names()
    if not isinstance(rows, tuple) or len(rows) != len(names):
        raise BadNotation("the text is no statement about these tokens")
    for token, row in zip(names, rows):
        if not is_row(config, token, row):
            raise BadNotation("a row of the statement is wrong")
    return rows


def is_row(config, token, row):
    """True if a value is a row for the token."""
    if not isinstance(row, tuple) or len(row) != 4:
        return False
    _, vault, away, _ = row
    return is_at_least(vault, 0) and is_at_least(away, 0) and row == stated(config, token, vault, away)
