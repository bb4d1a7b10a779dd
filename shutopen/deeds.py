"""Deeds: what is done on a bench, as tuples, as the lines of a journal, and what comes of them."""

from shutopen.errors import InvalidDeed, InvalidShare, TooMany
from shutopen.exact import ONE, compared, fraction_text, zeros
from shutopen.fills import Fill, is_amount
from shutopen.words import is_fraction
from shutopen.workrests import settled, works_rest
from shutopen.worktexts import row_text

MOST_DEEDS = 40

# What stands behind the word of each deed: a name, a fraction, or a row with a fraction for each ware.
FORMS = {
    "pot": ("name",),
    "pour": ("name", "row"),
    "take": ("name", "row"),
    "settle": (),
    "gate": ("name", "name", "name"),
    "wall": ("name", "name", "name"),
    "door": ("name", "name", "fraction"),
    "shut": ("name", "name"),
    "valve": ("name", "name", "name", "fraction"),
    "close": ("name", "name", "name"),
    "skim": ("name", "name", "fraction"),
}


def is_deed(value):
    if not isinstance(value, tuple) or not value or not isinstance(value[0], str):
        return False
    return value[0] in FORMS and len(value) == len(FORMS[value[0]]) + 1


def journal_text(deeds):
    lines = [" ".join([item_text(item) for item in deed]) for deed in deeds]
    return "".join([f"{line}\n" for line in lines])


def item_text(item):
    if isinstance(item, str):
        return item
    return fraction_text(item) if is_fraction(item) else row_text(item)


def done(stand, deeds):
    """What comes of deeds, of the works of a bench, the fills that were skimmed from its pots, and its journal."""
    for at, deed in enumerate(deeds):
        if not is_deed(deed):
            raise InvalidDeed(at)
    works, fills, journal = stand
    if len(journal) + len(deeds) > MOST_DEEDS:
        raise TooMany(MOST_DEEDS)
    for deed in deeds:
        works, fills = done_once(works, fills, deed)
    return (works, fills, (*journal, *deeds))


def done_once(works, fills, deed):
    word, *items = deed
    if word == "pot":
        empty = Fill(works.book, zeros(len(works.book)))
        return (works.with_pot(items[0], zeros(len(works.book.wares))), (*fills, empty))
    if word == "skim":
        return skimmed_off(works, fills, items)
    return (changed_works(works, word, items), fills)


def changed_works(works, word, items):
    """The works behind a deed that skims nothing and adds no pot."""
    if word == "settle":
        return settled(works)
    if word == "pour":
        return works.poured(*items)
    if word == "take":
        return works.taken(*items)
    if word == "gate":
        return works.with_gate(*items)
    if word == "wall":
        return works.without_gate(*items)
    if word == "door":
        return works.with_door(*items)
    if word == "shut":
        return works.with_shut(*items)
    if word == "valve":
        return works.with_valve(*items)
    return works.without_valve(*items)


def skimmed_off(works, fills, items):
    pot, kind, share = items
    at = works.pot_place(pot)
    works.book.place(kind)
    if not is_amount(share) or compared(share, ONE) > 0:
        raise InvalidShare()
    rest = works_rest(works).fills[at]
    off = Fill.of(works.book, {kind: rest[kind]}) * share
    return (works.taken(pot, off.contents), (*fills[:at], fills[at] + off, *fills[at + 1:]))
