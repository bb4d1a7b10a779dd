"""Ways from a fill that fits down to the told rest, by least reactions that can be done in any order."""

from shutopen.errors import InvalidOrder, NotFilled
from shutopen.exact import added, scaled
from shutopen.fills import Fill
from shutopen.rests import rest_of
from shutopen.splitting import split
from shutopen.words import is_number


class Way:
    """A fill, the told rest, and the steps between them: pairs of a weight and a reaction."""

    def __init__(self, start, goal, steps):
        self.start = start
        self.goal = goal
        self.steps = tuple(steps)

    def stops(self, *, order=None):
        places = list(range(len(self.steps))) if order is None else order
        if not is_order(places, len(self.steps)):
            raise InvalidOrder()
        fills = [self.start]
        for at in places:
            weight, reaction = self.steps[at]
            parts = added(fills[-1].parts, scaled(reaction.as_row(), weight))
            fills.append(Fill(self.start.book, parts))
        return fills

    def __len__(self):
        return len(self.steps)

    def __repr__(self):
        return f"Way({len(self.steps)} steps)"


def way(vessel, fill):
    if not vessel.fits(fill):
        raise NotFilled()
    goal = rest_of(vessel).fill
    change = added(goal.parts, scaled(fill.parts, (-1, 1)))
    return Way(fill, goal, split(vessel, change))


def is_order(value, many):
    """Whether a value, of any kind, is a list of all indexes below a number, each once."""
    if not isinstance(value, (list, tuple)) or not all([is_number(at) for at in value]):
        return False
    return sorted(value) == list(range(many))
