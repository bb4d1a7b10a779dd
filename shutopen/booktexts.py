"""Reading the text of a book: a line of wares, and a line for each kind."""

from shutopen.checks import first_double
from shutopen.errors import InvalidText
from shutopen.exact import read_fraction, read_number
from shutopen.kinds import MOST_NUMBERS, Kind, is_cost, wrong_number
from shutopen.words import is_name

MOST_KINDS = 10


def read_parts(text):
    """The pair of the list of the wares and the list of the kinds of a book with this text."""
    lines, is_ended = ended_lines(text)
    wares = []
    kinds = []
    for at, line in enumerate(lines):
        if at == 0:
            wares = line.split(" ")[1:]
            why = wares_fault(line)
        else:
            kind = read_kind(line, len(wares))
            why = kind_fault(kind, [earlier.name for earlier in kinds])
            kinds.append(kind)
        if why is not None:
            raise InvalidText(at, why)
    if not is_ended:
        raise InvalidText(len(lines), "form")
    if not kinds:
        raise InvalidText(len(lines), "missing")
    return wares, kinds


def ended_lines(text):
    """The pair of the list of the lines of a text that have a line feed, and whether nothing stands behind them."""
    if not isinstance(text, str):
        raise InvalidText(0, "form")
    lines = text.split("\n")
    behind = lines.pop()
    return lines, not behind


def wares_fault(line):
    word, *names = line.split(" ")
    if word != "wares" or not names or not all([is_name(name) for name in names]):
        return "form"
    if len(names) > MOST_NUMBERS:
        return "many"
    return "double" if first_double(names) is not None else None


def kind_fault(kind, names):
    """Why a line of a kind cannot stand behind the kinds with some names, None if it can. The kind is None if the
    line has not the form of one.
    """
    if kind is None:
        return "form"
    if len(names) >= MOST_KINDS:
        return "many"
    return "double" if kind.name in names else None


def read_kind(line, many):
    """The kind of a line with so many numbers, None if it has another form."""
    words = line.split(" ")
    if len(words) != many + 4 or words[0] != "kind" or words[-2] != "cost":
        return None
    name = words[1]
    numbers = [read_number(word) for word in words[2:-2]]
    cost = read_fraction(words[-1])
    if not is_name(name) or wrong_number(numbers) is not None or not is_cost(cost):
        return None
    return Kind(name, numbers, cost=cost)
