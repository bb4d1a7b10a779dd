"""The first least reaction by which a fill goes downhill, or by which a lot cannot rest together."""

from shutopen.errors import NotFilled
from shutopen.exact import sign, zeros
from shutopen.reactions import least_reactions, reaction_cost
from shutopen.vessels import Vessel


def downhill(vessel, fill):
    if not vessel.fits(fill):
        raise NotFilled()
    return first_down(vessel, fill.lot)


def apart(book, lot):
    names = book.ordered(lot)
    vessel = Vessel(book, [("shut", amount) for amount in zeros(len(book.wares))])
    return first_down(vessel, names)


def first_down(vessel, lot):
    """The first least reaction, in the direction in which it costs less than 0, that uses up only kinds of a lot;
    None if there is none.
    """
    for reaction in least_reactions(vessel):
        down = sign(reaction_cost(vessel, reaction))
        if down != 0:
            told = reaction if down < 0 else -reaction
            if all([name in lot for name in told.used()]):
                return told
    return None
