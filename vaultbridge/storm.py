"""A storm: bags that carry seals from the notary to relayers, and what happens to them on the way."""

from vaultbridge.bag import Bag
from vaultbridge.gateway import next_height
from vaultbridge.relayer import Relayer

HAND_OVER = 0
LOSE = 1
DOUBLE = 2
FLUSH = 3
DEEDS = 5


class Storm:
    """Relayers, each with a bag of seal numbers that are on the way to it."""

    def __init__(self, config, world, names):
        self._world = world
        self._relayers = [Relayer(name, config, world.notary()) for name in names]
        self._bags = [Bag() for _ in names]
        self._posted = 0

    def spread(self):
        """Posts each seal that was made since the last time to all bags."""
        made = self._world.notary().count()
        for seal in range(self._posted, made):
            for bag in self._bags:
                bag.post(seal)
        self._posted = made

    def blow(self, n):
        """Does what a number says: something to an item in a bag, or to the relayer whose bag it is."""
        many = len(self._relayers)
        relayer = self._relayers[n % many]
        bag = self._bags[n % many]
        deed = n // many % DEEDS
        items = len(bag.items_under_way())
        if deed in (HAND_OVER, LOSE, DOUBLE):
            if items > 0:
                shake(relayer, bag, deed, n // (DEEDS * many) % items)
        elif deed == FLUSH:
            relayer.flush()
        else:
            relayer.crash(items)

    def bag(self, index):
        """The bag of a relayer."""
        return self._bags[index]

    def relayer(self, index):
        """A relayer."""
        return self._relayers[index]

    def submit(self, index, side):
        """A relayer puts its ready orders for the next block on the best tip among the waiting ones; how many."""
        chain = self._world.chain(side)
        state = next_height(chain.state(chain.best()))
        orders = self._relayers[index].orders(state)
        for order in orders:
            self._world.wait(side, order)
        return len(orders)


def shake(relayer, bag, deed, index):
    """Hands an item of a bag over to the relayer, loses it or doubles it."""
    if deed == HAND_OVER:
        # it leaves the bag last: the relayer refuses an item that is no seal
        relayer.receive(bag.items_under_way()[index])
        bag.hand_over(index)
    elif deed == LOSE:
        bag.lose(index)
    else:
        bag.double(index)
