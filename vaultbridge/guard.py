"""What a guard does: the steps for its machine, as its views and its journal ask for them."""

from vaultbridge.config import other_side
from vaultbridge.errors import AlreadyApproved, InvalidArgument, UnknownTransfer
from vaultbridge.sets import is_set


def duties(west, east):
    """The letters about what the two views take for final."""
    return duties_of("west", west) + duties_of("east", east)


def duties_of(side, view):
    """The letters about what the view of a side takes for final."""
    letters = []
    for word, number, about in view.final_events():
        if word == "sent":
            letters.append(("deliver", side, number, about))
        elif word == "refused":
            letters.append(("return", other_side(side), number, about))
    return letters


def sealing(letters, journal):
    """The steps that seal those of the letters that the journal has not."""
    noted = {entry: True for entry in journal}
    steps = []
    for letter in letters:
        entry = ("sealed", letter)
        if entry not in noted:
            steps.append(("seal", letter))
            steps.append(("write", entry))
    if steps:
        steps.append(("flush",))
    return steps


def work(west, east, journal):
    """The steps for all duties that are left."""
    return sealing(duties(west, east), journal)


def approve(journal, number, guards):
    """The steps that approve a set for an epoch; no other set was approved for it before."""
    if number < 1 or not is_set(guards):
        raise InvalidArgument("there is no such epoch or no such set")
    entry = ("approved", number, guards)
    # the entry lasts before the seal is made: a guard that forgot it could seal another set
    steps = [("flush",), ("seal", ("rotate", "both", number, guards))]
    if entry in journal:
        return steps
    if [other for other in journal if other[:2] == entry[:2]]:
        raise AlreadyApproved("another set was approved for this epoch")
    return [("write", entry)] + steps


def bundles_of(side, view, many):
    """The letters about the complete groups of the transfers that were sent on a side."""
    # their numbers rise along the line, from 0 on and without gaps
    sent = [about for word, _, about in view.final_events() if word == "sent"]
    starts = range(0, len(sent) - many + 1, many)
    return [("bundle", side, start, tuple(sent[start:start + many])) for start in starts]


def bundle_work(config, west, east, journal):
    """The steps for all bundles that are left."""
    many = config.bundle()
    return sealing(bundles_of("west", west, many) + bundles_of("east", east, many), journal)


def cancel(west, east, side, number):
    """The step that asks to refuse a transfer that was sent on the side and waits on the other one."""
    view = east if side == "west" else west
    for word, at, about in view.final_events():
        if word == "waiting" and at == number:
            return [("seal", ("cancel", side, number, about))]
    raise UnknownTransfer("the view knows of no such transfer that waits")
