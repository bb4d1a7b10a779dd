"""Owners of what is shut in a vessel that rests, and shares of its burden: which of them stand."""

from shutopen.bestrows import suiting_row
from shutopen.checks import check_row, first_double
from shutopen.errors import DuplicateName, InvalidOwner, TooMany, UnknownOwner, WrongSum, WrongTotal
from shutopen.exact import ZERO, added, cleared, compared, least_of, minus, negative, product, scaled, sum_of, zeros
from shutopen.fills import Fill
from shutopen.rates import first_cost, first_gain
from shutopen.rests import end_of, rest_of
from shutopen.words import is_listed, is_name, is_row

MOST_OWNERS = 4


class Owners:
    """Owners, each with a name and a row of what it brings; together they bring just the shut amounts of a vessel."""

    def __init__(self, vessel, *owners):
        check_owners(vessel, owners)
        self.told = rest_of(vessel)
        self.vessel = vessel
        self.owners = owners
        self.total = self.told.burden

    def vessel_of(self, names):
        self.check_names(names)
        return self.copies_vessel([1 if name in names else 0 for name, _ in self.owners])

    def burden_of(self, names):
        end = end_of(self.vessel_of(names))
        # A set cannot run away, as the whole vessel rests.
        return self.vessel.burden_of(end[1]) if end[0] == "rests" else None

    def copies_vessel(self, copies):
        brought = zeros(len(self.vessel.states))
        for number, (_, row) in zip(copies, self.owners):
            brought = added(brought, scaled(row, (number, 1)))
        return self.vessel.with_amounts(brought)

    def price_shares(self):
        return (self.told.row, tuple([product(self.told.row, row) for _, row in self.owners]))

    def is_price_share(self, shares):
        self.check_shares(shares)
        return self.shared_row(shares)[0] == "met"

    def undone(self, shares):
        self.check_shares(shares)
        for places in sets_in_order(len(self.owners)):
            names = tuple([self.owners[at][0] for at in places])
            total = sum_of([shares[at] for at in places])
            end = end_of(self.vessel_of(names))
            if end[0] == "rests" and compared(self.vessel.burden_of(end[1]), total) < 0:
                return (names, end[1])
        return None

    def undone_by_copies(self, shares):
        self.check_shares(shares)
        word, weights = self.shared_row(shares)
        if word == "met":
            return None
        # What the weights of kinds hold, and the loads of owners more, is nothing, and it costs less than 0. The
        # whole, so many times that no owner is left with a load, turns loads into copies.
        many = len(self.vessel.book)
        own = weights[many:]
        loads = [minus(up, down) for up, down in zip(own, own[len(self.owners):])]
        times_whole = negative(least_of([ZERO, *[negative(load) for load in loads]]))
        copies, factor = cleared([minus(times_whole, load) for load in loads])
        parts = added(weights[:many], scaled(self.told.fill.parts, times_whole))
        return (tuple(copies), Fill(self.vessel.book, scaled(parts, (factor, 1))))

    def span(self, name):
        row = self.row_of(name)
        return (rate_of(first_gain(self.vessel, row)), rate_of(first_cost(self.vessel, row)))

    def idle(self):
        return tuple([name for name, _ in self.owners if self.span(name) == (ZERO, ZERO)])

    def shared_row(self, shares):
        """A best row with shares as its price shares, as suiting_row tells it. It is a best row as the sum of shares is
        the least burden.
        """
        return suiting_row(self.vessel, (), [(row, share) for (_, row), share in zip(self.owners, shares)])

    def row_of(self, name):
        """What an owner brings."""
        for own, row in self.owners:
            if own == name:
                return row
        raise UnknownOwner(name)

    def check_names(self, value):
        if not isinstance(value, (list, tuple)):
            raise UnknownOwner(value)
        names = [name for name, _ in self.owners]
        for at, item in enumerate(value):
            if not is_listed(item, names) or item in value[:at]:
                raise UnknownOwner(item)

    def check_shares(self, value):
        check_row(value, len(self.owners))
        total = sum_of(value)
        if total != self.total:
            raise WrongSum(total)

    def __len__(self):
        return len(self.owners)

    def __repr__(self):
        return f"Owners({len(self.owners)} owners)"


def check_owners(vessel, value):
    if not value:
        raise InvalidOwner(0)
    for at, item in enumerate(value):
        if not is_owner(vessel, item):
            raise InvalidOwner(at)
    double = first_double([name for name, _ in value])
    if double is not None:
        raise DuplicateName(value[double][0])
    if len(value) > MOST_OWNERS:
        raise TooMany(MOST_OWNERS)
    for at in vessel.shut_places():
        if sum_of([row[at] for _, row in value]) != vessel.amounts[at]:
            raise WrongTotal(vessel.book.wares[at])


def is_owner(vessel, value):
    if not isinstance(value, tuple) or len(value) != 2 or not is_name(value[0]):
        return False
    if not is_row(value[1], len(vessel.states)):
        return False
    return all([word == "shut" or item == ZERO for (word, _), item in zip(vessel.states, value[1])])


def sets_in_order(many):
    """The list of the tuples of indexes below a number, those of one index first, as many in the order of tuples."""
    found = []
    for one in range(1, 1 << many):
        places = tuple([at for at in range(many) if one >> at & 1 == 1])
        found.append((len(places), places))
    return [places for _, places in sorted(found)]


def rate_of(found):
    """The rate of a first cost or gain, None if there is none."""
    return found[1] if found[0] == "rate" else None
