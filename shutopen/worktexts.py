"""The text of a works: that of its book, and behind it a line for each pot, gate, door and valve."""

from shutopen.basins import first_unlike
from shutopen.books import Book
from shutopen.booktexts import ended_lines, kind_fault, read_kind, wares_fault
from shutopen.errors import InvalidText
from shutopen.exact import fraction_text, read_fraction
from shutopen.fills import is_amount
from shutopen.words import is_name
from shutopen.works import MOST_DOORS, MOST_GATES, MOST_POTS, Works, is_beyond

WORDS = ("wares", "kind", "pot", "gate", "door", "valve")


def works_text(works):
    lines = [f"pot {name} {row_text(row)}" for name, row in works.pots]
    lines.extend([f"gate {ware} {one} {other}" for ware, one, other in works.gates])
    lines.extend([f"door {ware} {pot} {fraction_text(price)}" for ware, pot, price in works.doors])
    for ware, source, goal, toll in works.valves:
        lines.append(f"valve {ware} {source} {goal} {fraction_text(toll)}")
    return "".join([works.book.text(), *[f"{line}\n" for line in lines]])


def read_works(text):
    lines, is_ended = ended_lines(text)
    found = WorksLines()
    for at, line in enumerate(lines):
        why = found.take(line)
        if why is not None:
            raise InvalidText(at, why)
    if not is_ended:
        raise InvalidText(len(lines), "form")
    if not found.pots:
        raise InvalidText(len(lines), "missing")
    return found.built()


class WorksLines:
    """What the lines of a text have told so far. Each method that takes something returns why it cannot stand, None
    if it can; it is None itself if its line has not the form of one.
    """

    def __init__(self):
        self.word = None
        self.wares = ()
        self.kinds = []
        self.pots = []
        self.gates = []
        self.doors = []
        self.valves = []

    def take(self, line):
        word, *texts = line.split(" ")
        if not may_follow(word, self.word):
            return "form"
        self.word = word
        if word == "wares":
            self.wares = tuple(texts)
            return wares_fault(line)
        if word == "kind":
            return self.take_kind(read_kind(line, len(self.wares)))
        if word == "pot":
            return self.take_pot(read_pot(texts, len(self.wares)))
        if word == "gate":
            return self.take_gate(read_gate(texts))
        if word == "door":
            return self.take_door(read_door(texts))
        return self.take_valve(read_valve(texts))

    def take_kind(self, kind):
        why = kind_fault(kind, [earlier.name for earlier in self.kinds])
        self.kinds.append(kind)
        return why

    def take_pot(self, pot):
        if pot is None:
            return "form"
        names = self.pot_names()
        self.pots.append(pot)
        if len(self.pots) > MOST_POTS or is_beyond(len(self.kinds), len(self.pots), 0):
            return "many"
        return "double" if pot[0] in names else None

    def take_gate(self, gate):
        if gate is None:
            return "form"
        self.gates.append(gate)
        if len(self.gates) > MOST_GATES:
            return "many"
        return None if self.has_places(gate[0], gate[1:]) else "unknown"

    def take_door(self, door):
        if door is None:
            return "form"
        self.doors.append(door)
        if len(self.doors) > MOST_DOORS:
            return "many"
        if not self.has_places(door[0], door[1:2]):
            return "unknown"
        return None if first_unlike(self.pot_names(), self.gates, self.doors) is None else "double"

    def take_valve(self, valve):
        if valve is None:
            return "form"
        earlier = [other[:3] for other in self.valves]
        self.valves.append(valve)
        if is_beyond(len(self.kinds), len(self.pots), len(self.valves)):
            return "many"
        if not self.has_places(valve[0], valve[1:3]):
            return "unknown"
        return "double" if valve[:3] in earlier else None

    def pot_names(self):
        return [name for name, _ in self.pots]

    def has_places(self, ware, pots):
        return ware in self.wares and all([pot in self.pot_names() for pot in pots])

    def built(self):
        book = Book(self.wares, *self.kinds)
        return Works(book, self.pots, gates=self.gates, doors=self.doors, valves=self.valves)


def may_follow(word, last):
    """Whether a line with a word may stand behind one with a last word, None for the first line."""
    if last is None or word not in WORDS[1:]:
        return last is None and word == "wares"
    here = WORDS.index(word)
    before = WORDS.index(last)
    # What follows the pots may be left out, what stands ahead of them may not.
    return before <= here and (here <= before + 1 or before >= WORDS.index("pot"))


def read_pot(texts, many):
    if len(texts) != many + 1 or not is_name(texts[0]):
        return None
    row = [read_fraction(text) for text in texts[1:]]
    return None if None in row else (texts[0], tuple(row))


def read_gate(texts):
    return tuple(texts) if len(texts) == 3 and is_way(texts) else None


def read_door(texts):
    if len(texts) != 3 or not is_name(texts[0]) or not is_name(texts[1]):
        return None
    price = read_fraction(texts[2])
    return None if price is None else (texts[0], texts[1], price)


def read_valve(texts):
    if len(texts) != 4 or not is_way(texts[:3]):
        return None
    toll = read_fraction(texts[3])
    return (*texts[:3], toll) if is_amount(toll) else None


def is_way(texts):
    """Whether three texts are names, of a ware and of two different pots."""
    return all([is_name(text) for text in texts]) and texts[1] != texts[2]


def row_text(row):
    return " ".join([fraction_text(item) for item in row])
