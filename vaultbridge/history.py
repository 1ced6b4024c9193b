"""What happened to an account or a token along the line of a block."""

from vaultbridge.errors import UnknownToken


def history(chain, number, account):
    """The changes of the balances of an account, as tuples of height, token and change."""
    line = chain.line(number)
    before = chain.state(line[0])
    found = []
    for block in line[1:]:
        after = chain.state(block)
        for token in chain.token_names():
            change = after.balance(account, token) - before.balance(account, token)
            if change != 0:
                found.append((after.height(), token, change))
        before = after
    return found


def supplies(chain, number, token):
    """The circulating amounts of a token after each block of the line."""
    line = chain.line(number)
    if token not in chain.token_names():
        raise UnknownToken("there is no such token")
    return [chain.state(block).circulating(token) for block in line]
