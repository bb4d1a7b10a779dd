"""What a bench answers to lines."""

from shutopen.errors import Impossible
from shutopen.exact import fraction_text, number_text
from shutopen.rests import end_of
from shutopen.sure import freedoms, maybe
from shutopen.workvessels import works_vessel

UNKNOWN = "unknown"

# What stands behind the word of each line. A flow has the source, the goal and the ware of a valve.
FORMS = {
    "end": (),
    "deeds": (),
    "steps": (),
    "burden": (),
    "loss": (),
    "single": (),
    "amount": ("pot", "kind"),
    "maybe": ("pot", "kind"),
    "skimmed": ("pot", "kind"),
    "contents": ("pot", "ware"),
    "poured": ("pot", "ware"),
    "flow": ("source", "goal", "ware"),
}


def answer_of(bench, line):
    if not isinstance(line, str):
        return UNKNOWN
    word, *names = line.split(" ")
    if not is_known(bench.present, word, names):
        return UNKNOWN
    try:
        return known_answer(bench, word, names)
    except Impossible as e:
        return f"error {e.code}"


def is_known(works, word, names):
    """Whether a line has one of the forms, with names that a works has."""
    if word not in FORMS or len(names) != len(FORMS[word]):
        return False
    if word == "flow":
        source, goal, ware = names
        return works.valve_place(ware, source, goal) is not None
    places = {"pot": works.pot_names(), "kind": works.book.names, "ware": works.book.wares}
    return all([name in places[form] for name, form in zip(names, FORMS[word])])


def known_answer(bench, word, names):
    if word == "end":
        return end_of(works_vessel(bench.present))[0]
    if word == "deeds":
        return number_text(len(bench))
    if word == "steps":
        return " ".join([number_text(number) for number in bench.history()])
    if word == "single":
        return yes_or_no(freedoms(works_vessel(bench.present))[0] == 0)
    if word == "maybe":
        pot, kind = names
        return yes_or_no(is_maybe(bench.present, pot, kind))
    return fraction_text(value_of(bench, word, names))


def value_of(bench, word, names):
    if word == "burden":
        return bench.rest().burden
    if word == "loss":
        return bench.loss()
    works = bench.present
    if word == "flow":
        source, goal, ware = names
        return bench.rest().flows[works.valve_place(ware, source, goal)]
    pot, name = names
    if word == "skimmed":
        return bench.skimmed(pot)[name]
    if word == "poured":
        return works.amounts_of(pot)[works.book.ware_index(name)]
    fill = bench.rest().fills[works.pot_place(pot)]
    return fill[name] if word == "amount" else fill.contents[works.book.ware_index(name)]


def is_maybe(works, pot, kind):
    vessel = works_vessel(works)
    at = works.pot_place(pot) * len(works.book) + works.book.place(kind)
    lot, _, _ = maybe(vessel)
    return vessel.book.names[at] in lot


def yes_or_no(value):
    return "yes" if value else "no"
