"""A second telling of points 17 to 30, against which the program is checked.

A model keeps nothing but the height, a log of events, and a list of movements; it computes everything else from them.
"""

from vaultbridge import errors


def same_form(value, form):
    """True if the value is a tuple of as many parts as the form, each of which fits."""
    return isinstance(value, tuple) and len(value) == len(form) and all(fits(part) for fits, part in zip(form, value))


def whole(least):
    return lambda part: type(part) is int and part >= least


def name(part):
    return type(part) is str and 1 <= len(part) <= 20


def transfer_form(value):
    form = (lambda part: type(part) is str, whole(1), whole(0), name, name, whole(0))
    return same_form(value, form) and value[2] <= value[1]


def set_form(value):
    pairs = isinstance(value, tuple) and value and all(same_form(pair, (name, whole(1))) for pair in value)
    return bool(pairs) and len({pair[0] for pair in value}) == len(value)


def letter_form(value):
    one = (transfer_form, ("west", "east"), 0)
    several = (lambda body: isinstance(body, tuple) and 1 <= len(body) <= 8 and all(map(transfer_form, body)),
               ("west", "east"), 0)
    nothing = (lambda body: body == (), ("west", "east"), 0)
    kinds = {"deliver": one, "return": one, "cancel": one, "bundle": several, "rotate": (set_form, ("both",), 1),
             "stop": nothing, "resume": nothing}
    if not isinstance(value, tuple) or len(value) != 4 or value[0] not in kinds:
        return False
    fits, sides, least = kinds[value[0]]
    return value[1] in sides and whole(least)(value[2]) and fits(value[3])


class Model:

    def __init__(self, config, notary, side):
        self.config, self.notary, self.side = config, notary, side
        self.other = "east" if side == "west" else "west"
        self.height = 0
        self.log = []
        self.moves = [(token, None, ("balance", account), amount) for account, token, amount in config.opening(side)]

    # what follows from the log

    def events(self, *words):
        return [(height, event) for height, event in self.log if event[0] in words]

    def amount(self, place, token):
        came = sum(move[3] for move in self.moves if move[0] == token and move[2] == place)
        return came - sum(move[3] for move in self.moves if move[0] == token and move[1] == place)

    def sets(self):
        return [self.config.guards()] + [event[2] for _, event in self.events("rotated")]

    def in_use(self):
        return self.sets()[-2:]

    def stops(self):
        return len(self.events("stopped"))

    def is_stopped(self):
        return self.stops() > len(self.events("resumed"))

    def transfers(self):
        return [event[2] for _, event in self.events("sent")]

    def last(self, number):
        """The height and the event that tell what became of a transfer from the other side."""
        found = [entry for entry in self.events("delivered", "refused", "waiting") if entry[1][1] == number]
        return found[-1] if found else (None, None)

    def taken(self, number):
        event = self.last(number)[1]
        return event and event[0]

    def waiting(self):
        numbers = {event[1] for _, event in self.events("waiting")}
        return sorted(number for number in numbers if self.taken(number) == "waiting")

    def is_returned(self, number):
        return number in [event[1] for _, event in self.events("returned")]

    def names(self):
        return sorted({place[1] for move in self.moves for place in move[1:3] if place and len(place) == 2})

    def bonders(self, token):
        return [who for who in self.names() if self.amount(("bond", who), token) > 0]

    def circulating(self, token):
        return sum(self.amount((kind, who), token) for kind in ("balance", "bond") for who in self.names())

    def is_known(self, token):
        return token in self.config.token_names()

    def is_home(self, token):
        return self.config.home(token) == self.side

    def worth(self, token, units):
        return units * self.config.scale(token) if self.is_home(token) else units

    def store(self, token):
        """Where tokens come from that are delivered: the vault, or nowhere."""
        return ("vault",) if self.is_home(token) else None

    def is_full(self, transfer):
        token, units = transfer[0], transfer[1]
        inside = [event[2][1] for height, event in self.events("delivered")
                  if event[2][0] == token and height > self.height - self.config.window()]
        return sum(inside) + units > self.config.limit(token)

    def is_short(self, transfer):
        token, units = transfer[0], transfer[1]
        return self.is_home(token) and self.amount(("vault",), token) < units * self.config.scale(token)

    def weighs(self, guards, letter, seals):
        sealed = [self.notary.shown(number) for number in seals]
        return sum(weight for who, weight in guards if (who, letter) in sealed)

    def reaches(self, guards, letter, seals):
        return 3 * self.weighs(guards, letter, seals) > 2 * sum(weight for _, weight in guards)

    def is_backed(self, letter, seals):
        return any(self.reaches(guards, letter, seals) for guards in self.in_use())

    # what orders do: each returns the error that it raises, or the list of the events

    def do(self, order):
        """Carries an order out; returns the name of the error, or "done", and the events."""
        parts = {"pay": 5, "send": 7, "take": 4, "claim": 3, "bond": 4, "unbond": 4, "accuse": 4}
        if not order or order[0] not in parts or parts[order[0]] != len(order):
            return "InvalidOrder", []
        found = getattr(self, order[0])(*order[1:])
        if isinstance(found, type):
            return found.__name__, []
        self.log.extend((self.height, event) for event in found)
        return "done", found

    def first(self, *checks):
        """The first error whose check tells that it applies."""
        for error, applies in checks:
            if applies():
                return error
        return None

    def move(self, token, source, target, amount):
        self.moves.append((token, source, target, amount))

    def simple(self, token, source, target, amount, *more):
        """The orders that move an amount."""
        error = self.first(
            (errors.InvalidOrder, lambda: amount < 1), (errors.UnknownToken, lambda: not self.is_known(token)), *more,
            (errors.NotEnoughBalance, lambda: self.amount(source, token) < amount))
        if error:
            return error
        self.move(token, source, target, amount)
        return []

    def pay(self, sender, receiver, token, amount):
        return self.simple(token, ("balance", sender), ("balance", receiver), amount)

    def bond(self, guard, token, amount):
        return self.simple(token, ("balance", guard), ("bond", guard), amount)

    def unbond(self, guard, token, amount):
        on_duty = [who for guards in self.in_use() for who, _ in guards]
        return self.simple(token, ("bond", guard), ("balance", guard), amount,
                           (errors.StillOnDuty, lambda: guard in on_duty))

    def send(self, sender, receiver, token, amount, fee, deadline):
        error = self.first((errors.Stopped, self.is_stopped), (errors.UnknownToken, lambda: not self.is_known(token)))
        if error:
            return error
        units = amount // self.config.scale(token) if self.is_home(token) else amount
        error = self.first(
            (errors.InvalidOrder, lambda: units < 1 or fee < 0 or fee > units or deadline < 0),
            (errors.NotEnoughBalance, lambda: self.amount(("balance", sender), token) < amount))
        if error:
            return error
        self.move(token, ("balance", sender), self.store(token), self.worth(token, units))
        return [("sent", len(self.transfers()), (token, units, fee, sender, receiver, deadline))]

    def accuse(self, accuser, first, second):
        (guard, letter), (other_guard, other_letter) = self.notary.shown(first), self.notary.shown(second)
        if guard != other_guard or letter == other_letter or letter[:3] != other_letter[:3]:
            return errors.InvalidOrder
        tokens = [token for token in self.config.token_names() if guard in self.bonders(token)]
        for token in tokens:
            self.move(token, ("bond", guard), ("balance", accuser), self.amount(("bond", guard), token))
        return [("punished", first, (guard,))] if tokens else errors.NothingBonded

    def pay_out(self, account, token, units):
        self.move(token, self.store(token), ("balance", account), self.worth(token, units))

    def delivered(self, relayer, number, transfer):
        token, units, fee, _, receiver, _ = transfer
        self.pay_out(receiver, token, units - fee)
        self.pay_out(relayer, token, fee)
        return ("delivered", number, transfer)

    def claim(self, relayer, number):
        height, event = self.last(number)
        transfer = event and event[2]
        error = self.first(
            (errors.Stopped, self.is_stopped),
            (errors.UnknownTransfer, lambda: event is None or event[0] != "waiting"),
            (errors.TooEarly, lambda: self.height < height + self.config.delay()))
        if error:
            return error
        if self.is_full(transfer):
            return errors.LimitReached if self.height <= transfer[5] else [("refused", number, transfer)]
        if self.is_short(transfer):
            return errors.NotEnoughBalance
        return [self.delivered(relayer, number, transfer)]

    def take(self, relayer, letter, seals):
        if not letter_form(letter):
            return errors.InvalidOrder
        kind, side = letter[:2]
        wanted = {"deliver": self.other, "bundle": self.other, "cancel": self.other, "rotate": "both"}
        error = self.first(
            (errors.Stopped, lambda: kind in ("deliver", "bundle", "return") and self.is_stopped()),
            (errors.WrongSide, lambda: side != wanted.get(kind, self.side)),
            (errors.NotEnoughWeight, lambda: kind in ("deliver", "bundle", "cancel", "return")
             and not self.is_backed(letter, seals)))
        return error or getattr(self, "take_" + kind)(relayer, letter, seals)

    def accepted(self, relayer, number, transfer):
        """What becomes of a transfer of a backed letter: an error or an event."""
        token, units, deadline = transfer[0], transfer[1], transfer[5]
        if not self.is_known(token):
            return errors.UnknownToken
        if self.taken(number):
            return errors.AlreadyTaken
        if self.height > deadline:
            return ("refused", number, transfer)
        if units >= self.config.large(token):
            return ("waiting", number, transfer)
        error = self.first((errors.LimitReached, lambda: self.is_full(transfer)),
                           (errors.NotEnoughBalance, lambda: self.is_short(transfer)))
        return error or self.delivered(relayer, number, transfer)

    def take_deliver(self, relayer, letter, seals):
        found = self.accepted(relayer, letter[2], letter[3])
        return found if isinstance(found, type) else [found]

    def take_bundle(self, relayer, letter, seals):
        log, found = list(self.log), []
        for index, transfer in enumerate(letter[3]):
            found.append(self.accepted(relayer, letter[2] + index, transfer))
            if not isinstance(found[-1], type):
                self.log.append((self.height, found[-1]))
        self.log = log
        return [event for event in found if not isinstance(event, type)] or found[0]

    def take_cancel(self, relayer, letter, seals):
        event = ("waiting", letter[2], letter[3])
        return [("refused",) + letter[2:]] if self.last(letter[2])[1] == event else errors.UnknownTransfer

    def take_return(self, relayer, letter, seals):
        number, transfer = letter[2:]
        error = self.first(
            (errors.UnknownTransfer, lambda: (number, transfer) not in list(enumerate(self.transfers()))),
            (errors.AlreadyTaken, lambda: self.is_returned(number)),
            (errors.NotEnoughBalance, lambda: self.is_short(transfer)))
        if error:
            return error
        self.pay_out(transfer[3], transfer[0], transfer[1])
        return [("returned", number, transfer)]

    def take_rotate(self, relayer, letter, seals):
        return self.first(
            (errors.WrongNumber, lambda: letter[2] != len(self.sets())),
            (errors.NotEnoughWeight, lambda: not self.reaches(self.sets()[-1], letter, seals)),
        ) or [("rotated",) + letter[2:]]

    def take_stop(self, relayer, letter, seals):
        # the guards that did not seal must miss the threshold
        rest = [(who, weight) for who, weight in self.sets()[-1]]
        whole_weight = sum(weight for _, weight in rest)
        return self.first(
            (errors.WrongNumber, lambda: letter[2] != self.stops() or self.is_stopped()),
            (errors.NotEnoughWeight,
             lambda: 3 * (whole_weight - self.weighs(self.sets()[-1], letter, seals)) > 2 * whole_weight),
        ) or [("stopped", letter[2], ())]

    def take_resume(self, relayer, letter, seals):
        return self.first(
            (errors.WrongNumber, lambda: letter[2] != self.stops() - 1 or not self.is_stopped()),
            (errors.NotEnoughWeight, lambda: not self.reaches(self.sets()[-1], letter, seals)),
        ) or [("resumed", letter[2], ())]

    def told(self, numbers, accounts):
        """The same as `shown` of the bench tells of a state."""
        tokens = self.config.token_names() + ["iron"]
        places = [(who, token) for who in accounts for token in tokens]
        return {
            "head": (self.side, self.height, len(self.sets()) - 1, self.is_stopped(), self.stops()),
            "balances": {(who, token): self.amount(("balance", who), token) for who, token in places},
            "bonds": {(who, token): self.amount(("bond", who), token) for who, token in places},
            "vaults": [self.amount(("vault",), token) for token in tokens],
            "circulating": [self.circulating(token) for token in tokens],
            "sets": self.sets(),
            "transfers": self.transfers(),
            "taken": [self.taken(number) for number in numbers],
            "waiting": self.waiting(),
            "returned": [self.is_returned(number) for number in numbers],
            "bonders": [self.bonders(token) for token in self.config.token_names()],
        }
