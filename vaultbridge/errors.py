"""The errors of the program, one class for each kind of failure."""


class BridgeError(ValueError):
    """The base class of all errors."""

    def word(self):
        """Returns the name of the class."""
        return self.__class__.__name__


class InvalidArgument(BridgeError):
    """An argument is not as the document says."""


class InvalidOrder(BridgeError):
    """An order or a letter is not well formed."""


class UnknownToken(BridgeError):
    """The configuration has no such token."""


class NotEnoughBalance(BridgeError):
    """A balance, a bond or a vault has less than is to be taken from it."""


class NotEnoughWeight(BridgeError):
    """The seals of a letter do not weigh enough."""


class WrongSide(BridgeError):
    """A letter was brought to the wrong ledger."""


class WrongNumber(BridgeError):
    """A letter has a number whose turn it is not, or there is no such epoch."""


class AlreadyTaken(BridgeError):
    """A transfer was taken or given back before."""


class UnknownTransfer(BridgeError):
    """There is no such transfer."""


class LimitReached(BridgeError):
    """More units of a token would be delivered in a window than its limit."""


class Stopped(BridgeError):
    """The gateway is stopped."""


class UnknownParent(BridgeError):
    """The parent of a block is not known."""


class UnknownBlock(BridgeError):
    """There is no such block."""


class DuplicateBlock(BridgeError):
    """There is a block with this number already."""


class ConflictsWithFinal(BridgeError):
    """A block would lie on a branch that the final block is not on."""


class UnknownSeal(BridgeError):
    """The notary's table has no such seal."""


class AlreadyApproved(BridgeError):
    """A guard approved another set for this epoch."""


class TooEarly(BridgeError):
    """It is too early, or, for a kept amount, too late."""


class StillOnDuty(BridgeError):
    """A guard in use cannot have its bond back."""


class NothingBonded(BridgeError):
    """The guard has no bond."""


class BadNotation(BridgeError):
    """A text is not the written form of such a value."""


class UnknownDigest(BridgeError):
    """No value has this number."""
