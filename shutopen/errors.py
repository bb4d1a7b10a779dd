"""All errors of the package: four bases for catching, and below each of them the errors that are raised.

Each error has the attribute code, the name of its class in lowercase letters.
"""


class Refused(ValueError):
    """What was passed cannot be taken."""

    def __init__(self):
        self.code = self.__class__.__name__.lower()


class Unknown(LookupError):
    """A name that is not there."""

    def __init__(self):
        self.code = self.__class__.__name__.lower()


class Impossible(ArithmeticError):
    """What was asked for does not exist."""

    def __init__(self):
        self.code = self.__class__.__name__.lower()


class NoStep(IndexError):
    """There is no step from here."""

    def __init__(self):
        self.code = self.__class__.__name__.lower()


class InvalidText(Refused):
    """The line of a text that cannot stand, and a word that says why."""

    def __init__(self, line, why):
        Refused.__init__(self)
        self.line = line
        self.why = why


class InvalidName(Refused):
    """A value that is no name."""

    def __init__(self, name):
        Refused.__init__(self)
        self.name = name


class InvalidNumbers(Refused):
    """The numbers of a kind are wrong."""

    def __init__(self, at):
        Refused.__init__(self)
        self.at = at


class InvalidCost(Refused):
    """The cost of a kind is wrong."""


class InvalidWares(Refused):
    """The wares of a book are wrong."""

    def __init__(self, at):
        Refused.__init__(self)
        self.at = at


class InvalidKind(Refused):
    """A value that cannot be a kind of the book."""

    def __init__(self, at):
        Refused.__init__(self)
        self.at = at


class DuplicateName(Refused):
    """A name that stands ahead."""

    def __init__(self, name):
        Refused.__init__(self)
        self.name = name


class TooMany(Refused):
    """More than the greatest number that is allowed."""

    def __init__(self, most):
        Refused.__init__(self)
        self.most = most


class InvalidFill(Refused):
    """The amounts of a fill are wrong."""

    def __init__(self, at):
        Refused.__init__(self)
        self.at = at


class Negative(Refused):
    """A kind whose amount would be negative."""

    def __init__(self, name):
        Refused.__init__(self)
        self.name = name


class InvalidState(Refused):
    """The states of a vessel are wrong."""

    def __init__(self, at):
        Refused.__init__(self)
        self.at = at


class InvalidRow(Refused):
    """A row is wrong."""

    def __init__(self, at):
        Refused.__init__(self)
        self.at = at


class InvalidLot(Refused):
    """A lot is wrong."""

    def __init__(self, at):
        Refused.__init__(self)
        self.at = at


class InvalidFraction(Refused):
    """A value that is no fraction, or not one that is allowed."""


class NotFilled(Refused):
    """A value that is no fill that fits."""


class InvalidReaction(Refused):
    """A value that is no reaction or no change."""


class InvalidOrder(Refused):
    """A value that is no order of steps."""


class NotBorne(Refused):
    """A kind with a negative lack."""

    def __init__(self, name):
        Refused.__init__(self)
        self.name = name


class NotBase(Refused):
    """A lot that is no base."""


class NotOpen(Refused):
    """A ware that is shut."""

    def __init__(self, ware):
        Refused.__init__(self)
        self.ware = ware


class InvalidWindow(Refused):
    """A value that is no window."""


class DifferentWares(Refused):
    """Books with different wares."""


class InvalidPot(Refused):
    """The pots of a works are wrong."""

    def __init__(self, at):
        Refused.__init__(self)
        self.at = at


class InvalidGate(Refused):
    """The gates of a works are wrong."""

    def __init__(self, at):
        Refused.__init__(self)
        self.at = at


class InvalidDoor(Refused):
    """The doors of a works are wrong."""

    def __init__(self, at):
        Refused.__init__(self)
        self.at = at


class InvalidValve(Refused):
    """The valves of a works are wrong."""

    def __init__(self, at):
        Refused.__init__(self)
        self.at = at


class InvalidOwner(Refused):
    """A value that is no owner."""

    def __init__(self, at):
        Refused.__init__(self)
        self.at = at


class WrongTotal(Refused):
    """A ware of which the owners do not bring just its amount."""

    def __init__(self, ware):
        Refused.__init__(self)
        self.ware = ware


class WrongSum(Refused):
    """The sum of shares that is not the total."""

    def __init__(self, total):
        Refused.__init__(self)
        self.total = total


class InvalidLook(Refused):
    """The looks are wrong."""

    def __init__(self, at):
        Refused.__init__(self)
        self.at = at


class InvalidSaying(Refused):
    """The sayings are wrong."""

    def __init__(self, at):
        Refused.__init__(self)
        self.at = at


class InvalidDeed(Refused):
    """A value that is no deed."""

    def __init__(self, at):
        Refused.__init__(self)
        self.at = at


class InvalidShare(Refused):
    """A value that is no share."""


class UnknownKind(Unknown):
    """No name of a kind of the book."""

    def __init__(self, name):
        Unknown.__init__(self)
        self.name = name


class UnknownWare(Unknown):
    """No name of a ware of the book."""

    def __init__(self, name):
        Unknown.__init__(self)
        self.name = name


class UnknownPot(Unknown):
    """No name of a pot of the works."""

    def __init__(self, name):
        Unknown.__init__(self)
        self.name = name


class UnknownOwner(Unknown):
    """No name of an owner, or one that stands ahead."""

    def __init__(self, name):
        Unknown.__init__(self)
        self.name = name


class UnknownGate(Unknown):
    """No gate for the ware between two pots."""

    def __init__(self, ware):
        Unknown.__init__(self)
        self.ware = ware


class UnknownValve(Unknown):
    """No valve for the ware from one pot to another."""

    def __init__(self, ware):
        Unknown.__init__(self)
        self.ware = ware


class ByZero(Impossible):
    """A division by zero."""


class Unfillable(Impossible):
    """No fill fits the vessel; the row is the paper."""

    def __init__(self, row):
        Impossible.__init__(self)
        self.row = row


class RunsAway(Impossible):
    """The vessel runs away; both are the paper."""

    def __init__(self, fill, mixture):
        Impossible.__init__(self)
        self.fill = fill
        self.mixture = mixture


class Hollow(Impossible):
    """The body of the book is empty; the mixture is the paper."""

    def __init__(self, mixture):
        Impossible.__init__(self)
        self.mixture = mixture


class Clash(Impossible):
    """No costs fit; the weights of lines are the paper."""

    def __init__(self, weights):
        Impossible.__init__(self)
        self.weights = weights


class NothingLeft(NoStep):
    """Nothing is left to take back or to do again."""


class InDraft(NoStep):
    """A draft goes on."""


class NoDraft(NoStep):
    """No draft goes on."""


class OutsideWindow(NoStep):
    """A value that is no point of the window."""

    def __init__(self, point):
        NoStep.__init__(self)
        self.point = point
