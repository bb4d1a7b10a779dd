"""Verdicts: whether a fill rests with all costs that fit some looks, with some of them or with none."""

from shutopen.checks import check_searched
from shutopen.errors import NotFilled
from shutopen.exact import product
from shutopen.reactions import least_reactions


def verdict(looks, vessel, fill):
    if not vessel.fits(fill):
        raise NotFilled()
    check_searched(vessel.book)
    unknowns = looks.unknowns()
    papers = []
    for reaction in reactions_from(vessel, fill):
        word, paper = looks.held_at(unknowns, reaction.as_row(), worth_outside(vessel, reaction))
        if word == "not":
            return doubtful(looks, vessel, fill, paper)
        papers.append((reaction, paper))
    return ("always", papers)


def doubtful(looks, vessel, fill, costs):
    """The verdict on a fill that does not rest with some costs that fit."""
    noted = tuple([value if word == "open" else None for word, value in vessel.states])
    found = looks.with_look((fill.lot, noted)).fit()
    if found[0] == "clash":
        return ("never", found[1])
    return ("sometimes", found[1], costs)


def reactions_from(vessel, fill):
    """The list of the least reactions, in both directions, that use up only kinds that are in a fill, or nothing."""
    found = []
    for reaction in least_reactions(vessel):
        found.extend([told for told in (reaction, -reaction) if told.uses_only(fill)])
    return found


def worth_outside(vessel, reaction):
    """What the world outside takes or gives, at its prices, for the contents of a reaction at the open wares."""
    contents = tuple([(number, 1) for number in reaction.contents_of()])
    return product(vessel.open_prices(), contents)
