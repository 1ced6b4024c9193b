"""Evidence that an event happened on the line of a block."""

from vaultbridge.errors import InvalidArgument
from vaultbridge.tree import leaf_paper, root


def line_events(chain, number):
    """The events of the blocks on the line of a block, in their order."""
    found = []
    for block in chain.line(number):
        found.extend(chain.events(block))
    return found


def event_leaves(digests, chain, number):
    """The digests of the events on the line of a block, in their order."""
    return [digests.number(event) for event in line_events(chain, number)]


def evidence(digests, chain, number, index):
    """The root of the event leaves of the line of a block, and the leaf paper for one of them."""
    events = line_events(chain, number)
    # before the first digest is asked for: an error must leave the table as it is
    if not 0 <= index < len(events):
        raise InvalidArgument("the line has no such event")
    leaves = [digests.number(event) for event in events]
    return (root(digests, leaves), leaf_paper(digests, leaves, index))
