"""The text of a journal, read and done again on a new bench."""

from shutopen.bench import Bench
from shutopen.booktexts import ended_lines
from shutopen.deeds import FORMS, MOST_DEEDS
from shutopen.errors import Impossible, InvalidText, Refused, Unknown
from shutopen.exact import read_fraction
from shutopen.words import is_name


def replay(book, text):
    lines, is_ended = ended_lines(text)
    bench = Bench(book)
    for at, line in enumerate(lines):
        why = replay_fault(bench, read_deed(line, len(book.wares)))
        if why is not None:
            raise InvalidText(at, why)
    if not is_ended:
        raise InvalidText(len(lines), "form")
    return bench


def replay_fault(bench, deed):
    """Does a deed; returns why it cannot be done, None if it was. The deed is None if its line has not the form of
    one.
    """
    if deed is None:
        return "form"
    if len(bench) >= MOST_DEEDS:
        return "many"
    try:
        bench.do(deed)
    except (Refused, Unknown, Impossible):
        return "refused"
    return None


def read_deed(line, many):
    """The deed of a line, None if it has the form of none; there are so many wares."""
    word, *texts = line.split(" ")
    if word not in FORMS:
        return None
    items = []
    for form in FORMS[word]:
        width = many if form == "row" else 1
        items.append(read_item(form, texts[:width], width))
        texts = texts[width:]
    return None if texts or None in items else (word, *items)


def read_item(form, texts, width):
    if len(texts) < width:
        return None
    if form == "name":
        return texts[0] if is_name(texts[0]) else None
    row = [read_fraction(text) for text in texts]
    if None in row:
        return None
    return tuple(row) if form == "row" else row[0]
