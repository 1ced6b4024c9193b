"""Sets of guards: who has how much weight, and how much is needed."""

from vaultbridge.kinds import is_account, is_at_least


def is_set(value):
    """True if the tuple is a set of guards."""
    if not isinstance(value, tuple) or not value:
        return False
    found = {}
    for part in value:
        if not is_pair(part) or part[0] in found:
            return False
        found[part[0]] = True
    return True


def is_pair(part):
    """True if the part is a guard with its weight."""
    return isinstance(part, tuple) and len(part) == 2 and is_account(part[0]) and is_at_least(part[1], 1)


def total(guards):
    """The sum of the weights of a set."""
    return sum([weight for _, weight in guards])


def threshold(guards):
    """The smallest integer that is more than two thirds of the total."""
    return total(guards) * 2 // 3 + 1


def minority(guards):
    """The least weight without which the others miss the threshold."""
    return total(guards) - threshold(guards) + 1
