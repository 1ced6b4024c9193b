"""A world: both ledgers, the notary, and the guards with their machines and views."""

from vaultbridge.chain import Chain
from vaultbridge.errors import InvalidArgument
from vaultbridge.gateway import named_seals, next_height
from vaultbridge.guard import approve, work
from vaultbridge.kinds import SIDES
from vaultbridge.machine import Machine
from vaultbridge.notary import Notary
from vaultbridge.relay import ready_orders, successes
from vaultbridge.view import View

RELAYER = "relayer"


class World:
    """Everything that one bridge consists of. Whoever drives it decides what happens next."""

    def __init__(self, config, liars):
        self._config = config
        self._liars = {name: True for name in liars}
        self._notary = Notary()
        self._chains = {side: Chain(side, config, self._notary) for side in SIDES}
        self._waiting = {side: [] for side in SIDES}
        self._made = {side: 0 for side in SIDES}
        self._machines = {}
        self._views = {}
        self._enlist(config.guards())

    def chain(self, side):
        """The ledger of a side."""
        return self._chains[side]

    def notary(self):
        """The notary of both ledgers."""
        return self._notary

    def guards(self):
        """The names of all guards, the liars too, ascending."""
        return sorted(self._machines)

    def machine(self, guard):
        """The machine of a guard."""
        self._check_guard(guard)
        return self._machines[guard]

    def view(self, guard, side):
        """What a guard has seen of a ledger."""
        self._check_guard(guard)
        return self._views[guard][side]

    def wait(self, side, order):
        """Adds an order to the waiting ones of a side."""
        self._waiting[side].append(order)

    def waiting(self, side):
        """The waiting orders of a side."""
        return list(self._waiting[side])

    def mine(self, side, parent, chosen):
        """Makes a block with the waiting orders that have these indexes; returns its number."""
        orders = self._waiting[side]
        for index in chosen:
            if not 0 <= index < len(orders):
                raise InvalidArgument("no waiting order has this index")
        return self._make_block(side, parent, tuple([orders[index] for index in chosen]))

    def approve(self, guard, number, guards):
        """A guard approves a set for an epoch."""
        self._check_guard(guard)
        if guard in self._liars:
            raise InvalidArgument("a liar does nothing by itself")
        machine = self._machines[guard]
        carry_out_all(machine, approve(machine.journal(), number, guards))
        self._enlist(guards)

    def lie(self, guard, letter):
        """Seals a letter in the name of a liar; returns the number of the seal."""
        if guard not in self._liars:
            raise InvalidArgument("the guard is no liar")
        return self._notary.seal(guard, letter)

    def restart(self, guard, lost):
        """The machine of a guard crashes, and its views are new ones."""
        self._check_guard(guard)
        self._machines[guard].crash(lost)
        self._views[guard] = self._new_views()

    def calm_round(self):
        """All guards but the liars see everything and do their work; then each ledger gets a block."""
        # before the first step: a seal that is not there must not leave half a round behind
        for side in SIDES:
            for order in self._waiting[side]:
                self._notary.check_seals(named_seals(order))
        for guard in self.guards():
            if guard not in self._liars:
                self._show_all(guard)
                self._do_work(guard)
        for side in SIDES:
            self._make_calm_block(side)

    def _show_all(self, guard):
        """Shows every block of both ledgers to a guard."""
        for side in SIDES:
            for number in self._chains[side].numbers():
                self._views[guard][side].show(number)

    def _do_work(self, guard):
        """A guard carries out all steps of its work."""
        views = self._views[guard]
        machine = self._machines[guard]
        carry_out_all(machine, work(views["west"], views["east"], machine.journal()))

    def _make_calm_block(self, side):
        """Makes a block on the best tip: the waiting orders, and behind them what is ready for a relayer."""
        chain = self._chains[side]
        parent = chain.best()
        orders = self._waiting[side]
        state = next_height(chain.state(parent))
        _, state = successes(self._config, self._notary, state, orders)
        seals = list(range(self._notary.count()))
        ready = ready_orders(self._config, self._notary, state, RELAYER, seals)
        self._make_block(side, parent, tuple(orders + ready))
        self._waiting[side] = []

    def _make_block(self, side, parent, orders):
        """Makes a block with the next number; returns the number."""
        number = self._made[side] + 1
        self._chains[side].add(number, parent, orders)
        self._made[side] = number
        return number

    def _enlist(self, guards):
        """Gives a machine and views to those guards of a set that have none."""
        for guard, _ in guards:
            if guard not in self._machines:
                self._machines[guard] = Machine(guard, self._notary)
                self._views[guard] = self._new_views()

    def _new_views(self):
        """A view of each ledger in which nothing was shown."""
        return {side: View(self._chains[side]) for side in SIDES}

    def _check_guard(self, guard):
        """Raises InvalidArgument if there is no such guard."""
        if guard not in self._machines:
            raise InvalidArgument("there is no such guard")


def carry_out_all(machine, steps):
    """A machine carries out all of the steps."""
    machine.carry_out(steps, len(steps))
