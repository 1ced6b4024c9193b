"""A market for room in blocks."""

from vaultbridge.errors import InvalidArgument


def choose(tips, room):
    """The indexes of the greatest tips for which there is room, ascending."""
    # sorting keeps the order of equal tips, and those that wait longer come first in it
    best = sorted(range(len(tips)), key=lambda index: -tips[index])
    return sorted(best[:room])


def next_price(price, used, room):
    """The price of the next block, after one in which so many places were used."""
    if price < 1 or room < 1 or not 0 <= used <= room:
        raise InvalidArgument("the price, the room or what was used of it is out of range")
    if 2 * used > room:
        return price + max(1, price * (2 * used - room) // (8 * room))
    # it falls by an eighth at most, so it stays at 1 or more
    return price - price * (room - 2 * used) // (8 * room)
