"""The gateway: what each order does to a state.

Each action gets a copy of the state of its own to change, and returns the events. An action that raises an error may
leave its copy half changed, so nobody keeps it; only `accept` and what it calls check everything first.
"""

from vaultbridge.config import other_side
from vaultbridge.errors import (
    AlreadyTaken, BridgeError, InvalidOrder, LimitReached, NotEnoughBalance, NotEnoughWeight, NothingBonded,
    StillOnDuty, Stopped, TooEarly, UnknownTransfer, WrongNumber, WrongSide)
from vaultbridge.letters import is_letter, key
from vaultbridge.sets import minority, threshold

FROM_OTHER_SIDE = ("deliver", "bundle", "cancel")
OF_THIS_SIDE = ("return", "stop", "resume")
NOT_WHEN_STOPPED = ("deliver", "bundle", "return")


def check_amount(config, token, amount):
    """Raises InvalidOrder and UnknownToken for what an order wants to move."""
    if amount < 1:
        raise InvalidOrder("an amount is at least 1")
    config.check_token(token)


def do_pay(config, notary, state, order):
    """Moves an amount from one account to another one."""
    _, sender, receiver, token, amount = order
    check_amount(config, token, amount)
    state.sheet().move(sender, receiver, token, amount)
    return []


def do_send(config, notary, state, order):
    """Begins a transfer to the other side."""
    _, sender, receiver, token, amount, fee, deadline = order
    if state.is_stopped():
        raise Stopped("the gateway is stopped")
    at_home = config.home(token) == state.side()
    units = amount // config.scale(token) if at_home else amount
    if units < 1 or not 0 <= fee <= units or deadline < 0:
        raise InvalidOrder("the units, the fee or the deadline are out of range")
    sheet = state.sheet()
    if sheet.balance(sender, token) < amount:
        raise NotEnoughBalance("the sender has less")
    if at_home:
        sheet.lock(sender, token, units)
    else:
        sheet.burn(sender, token, units)
    transfer = (token, units, fee, sender, receiver, deadline)
    number = state.add_transfer(transfer)
    return [("sent", number, transfer)]


def do_bond(config, notary, state, order):
    """Moves an amount from a balance to the bond of the same name."""
    _, guard, token, amount = order
    check_amount(config, token, amount)
    state.sheet().bond(guard, token, amount)
    return []


def do_unbond(config, notary, state, order):
    """Moves an amount from a bond back to the balance."""
    _, guard, token, amount = order
    check_amount(config, token, amount)
    for guards in sets_in_use(state):
        if guard in [name for name, _ in guards]:
            raise StillOnDuty("the guard is in a set in use")
    state.sheet().unbond(guard, token, amount)
    return []


def do_accuse(config, notary, state, order):
    """Moves the bonds of a guard that sealed two letters with one key to the accuser."""
    _, accuser, first, second = order
    guard, letter = notary.shown(first)
    other_guard, other_letter = notary.shown(second)
    if guard != other_guard or letter == other_letter or key(letter) != key(other_letter):
        raise InvalidOrder("the seals prove nothing")
    sheet = state.sheet()
    bonded = [token for token in config.token_names() if sheet.bonded(guard, token) > 0]
    if not bonded:
        raise NothingBonded("the guard has no bond")
    for token in bonded:
        amount = sheet.bonded(guard, token)
        sheet.unbond(guard, token, amount)
        sheet.move(guard, accuser, token, amount)
    return [("punished", first, (guard,))]


def sets_in_use(state):
    """The set of the current epoch, and that of the epoch before, if there is one."""
    epoch = state.epoch()
    return [state.guards(number) for number in range(max(0, epoch - 1), epoch + 1)]


def check_backed(notary, state, letter, seals):
    """Raises NotEnoughWeight unless the seals reach the threshold of a set in use."""
    for guards in sets_in_use(state):
        if notary.weight(guards, letter, seals) >= threshold(guards):
            return
    raise NotEnoughWeight("the letter is not backed")


def check_current(notary, state, letter, seals, needed):
    """Raises NotEnoughWeight unless the seals have the needed weight for the current set."""
    if notary.weight(state.guards(state.epoch()), letter, seals) < needed:
        raise NotEnoughWeight("the seals do not weigh enough")


def check_vault(config, state, token, units):
    """Raises NotEnoughBalance if units would come from a vault that has less."""
    if config.home(token) == state.side() and state.vault(token) < units * config.scale(token):
        raise NotEnoughBalance("the vault has less")


def give(config, state, account, token, units):
    """Gives units to an account, from the vault at home, which may have less, and minted elsewhere."""
    if config.home(token) == state.side():
        state.sheet().release(account, token, units)
    else:
        state.sheet().mint(account, token, units)


def is_beyond_limit(config, state, transfer):
    """True if the window has no room for the transfer any more."""
    token, units = transfer[:2]
    delivered = state.units_delivered(token, state.height() - config.window())
    return delivered + units > config.limit(token)


def deliver(config, state, relayer, number, transfer):
    """Delivers a transfer, for which the limit has room; returns the event."""
    token, units, fee, _, receiver, _ = transfer
    # before the first part is given, since a bundle goes on with this state after an error
    check_vault(config, state, token, units)
    give(config, state, receiver, token, units - fee)
    give(config, state, relayer, token, fee)
    state.deliver(number, token, units)
    return ("delivered", number, transfer)


def refuse(state, number, transfer):
    """Refuses a transfer; returns the event."""
    state.refuse(number)
    return ("refused", number, transfer)


def accept(config, state, relayer, number, transfer):
    """Takes a transfer of a backed letter from the other side; returns the event. An error changes nothing."""
    token, units, _, _, _, deadline = transfer
    config.check_token(token)
    if state.taken(number) is not None:
        raise AlreadyTaken("the transfer was taken before")
    if state.height() > deadline:
        return refuse(state, number, transfer)
    if units >= config.large(token):
        state.hold(number, transfer, state.height() + config.delay())
        return ("waiting", number, transfer)
    if is_beyond_limit(config, state, transfer):
        raise LimitReached("the window has no room")
    return deliver(config, state, relayer, number, transfer)


def take_deliver(config, notary, state, order):
    """Takes a letter about a transfer that was sent on the other side."""
    _, relayer, letter, seals = order
    check_backed(notary, state, letter, seals)
    return [accept(config, state, relayer, letter[2], letter[3])]


def take_bundle(config, notary, state, order):
    """Takes a letter about several transfers; those that raise an error are left out."""
    _, relayer, letter, seals = order
    check_backed(notary, state, letter, seals)
    _, _, number, transfers = letter
    events = []
    for index, transfer in enumerate(transfers):
        try:
            events.append(accept(config, state, relayer, number + index, transfer))
        except BridgeError:
            continue
    if not events:
        # nothing has changed, so the first transfer raises its error once more
        accept(config, state, relayer, number, transfers[0])
    return events


def take_cancel(config, notary, state, order):
    """Refuses a transfer that waits."""
    _, _, letter, seals = order
    check_backed(notary, state, letter, seals)
    _, _, number, transfer = letter
    if state.held(number) != transfer:
        raise UnknownTransfer("no such transfer waits")
    return [refuse(state, number, transfer)]


def take_return(config, notary, state, order):
    """Gives a transfer back that was refused on the other side."""
    _, _, letter, seals = order
    check_backed(notary, state, letter, seals)
    _, _, number, transfer = letter
    if state.sent(number) != transfer:
        raise UnknownTransfer("no such transfer was sent")
    if state.is_returned(number):
        raise AlreadyTaken("the transfer was given back before")
    token, units, _, sender, _, _ = transfer
    give(config, state, sender, token, units)
    state.give_back(number)
    return [("returned", number, transfer)]


def take_rotate(config, notary, state, order):
    """Begins the next epoch."""
    _, _, letter, seals = order
    _, _, number, guards = letter
    if number != state.epoch() + 1:
        raise WrongNumber("it is not the turn of this epoch")
    check_current(notary, state, letter, seals, threshold(state.guards(state.epoch())))
    state.rotate(guards)
    return [("rotated", number, guards)]


def take_stop(config, notary, state, order):
    """Stops the gateway."""
    _, _, letter, seals = order
    number = letter[2]
    if number != state.stops() or state.is_stopped():
        raise WrongNumber("it is not the turn of this stop")
    check_current(notary, state, letter, seals, minority(state.guards(state.epoch())))
    state.stop()
    return [("stopped", number, ())]


def take_resume(config, notary, state, order):
    """Lets the gateway go on."""
    _, _, letter, seals = order
    number = letter[2]
    if number != state.stops() - 1 or not state.is_stopped():
        raise WrongNumber("there is no such stop to end")
    check_current(notary, state, letter, seals, threshold(state.guards(state.epoch())))
    state.resume()
    return [("resumed", number, ())]


LETTERS = {
    "deliver": take_deliver,
    "bundle": take_bundle,
    "cancel": take_cancel,
    "return": take_return,
    "rotate": take_rotate,
    "stop": take_stop,
    "resume": take_resume,
}


def do_take(config, notary, state, order):
    """Takes a letter that a relayer brings."""
    letter = order[2]
    if not is_letter(letter):
        raise InvalidOrder("the letter is not well formed")
    kind, side = letter[:2]
    if state.is_stopped() and kind in NOT_WHEN_STOPPED:
        raise Stopped("the gateway is stopped")
    if kind in FROM_OTHER_SIDE and side != other_side(state.side()):
        raise WrongSide("the letter is not about the other side")
    if kind in OF_THIS_SIDE and side != state.side():
        raise WrongSide("the letter is not about this side")
    action = LETTERS[kind]
    return action(config, notary, state, order)


def do_claim(config, notary, state, order):
    """Ends the waiting of a transfer."""
    _, relayer, number = order
    if state.is_stopped():
        raise Stopped("the gateway is stopped")
    transfer = state.held(number)
    if transfer is None:
        raise UnknownTransfer("no such transfer waits")
    if state.height() < state.claim_height(number):
        raise TooEarly("the transfer has to wait longer")
    if not is_beyond_limit(config, state, transfer):
        return [deliver(config, state, relayer, number, transfer)]
    if state.height() <= transfer[5]:
        raise LimitReached("the window has no room")
    return [refuse(state, number, transfer)]


ORDERS = {
    "pay": do_pay,
    "send": do_send,
    "take": do_take,
    "claim": do_claim,
    "bond": do_bond,
    "unbond": do_unbond,
    "accuse": do_accuse,
}

PARTS = {"pay": 5, "send": 7, "take": 4, "claim": 3, "bond": 4, "unbond": 4, "accuse": 4}


def word_of(order):
    """The first part of an order; raises InvalidOrder if no order has it and this number of parts."""
    word = order[0] if order else None
    if not isinstance(word, str) or PARTS.get(word, 0) != len(order):
        raise InvalidOrder("there is no such order")
    return word


def named_seals(order):
    """The numbers of the seals that an order names."""
    if len(order) == PARTS["take"] and order[0] == "take":
        return order[3]
    if len(order) == PARTS["accuse"] and order[0] == "accuse":
        return (order[2], order[3])
    return ()


def outcome(config, notary, state, order):
    """Returns the state and the list of events after one order; `state` does not change."""
    action = ORDERS[word_of(order)]
    after = state.copy()
    events = action(config, notary, after, order)
    return (after, events)


def next_height(state):
    """Returns an equal state whose height is greater by one."""
    after = state.copy()
    after.rise()
    return after


def after_block(config, notary, state, orders):
    """Returns the state, the events and the outcomes of the orders of a block, given the state after its parent."""
    state = next_height(state)
    events = []
    receipts = []
    for order in orders:
        try:
            state, told = outcome(config, notary, state, order)
            events.extend(told)
            receipts.append("done")
        except BridgeError as error:
            receipts.append(error.word())
    return (state, events, receipts)
