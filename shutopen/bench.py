"""A bench: a works on which deeds are done and taken back, and what was skimmed from its pots."""

from shutopen.answers import answer_of
from shutopen.deeds import done
from shutopen.errors import InDraft, NoDraft, NothingLeft
from shutopen.exact import minus, plus, zeros
from shutopen.fills import Fill
from shutopen.workrests import best_rows, works_rest
from shutopen.works import Works
from shutopen.worktexts import row_text, works_text
from shutopen.workvessels import put_together


class Bench:
    """Stands of a bench are tuples: the works, a fill for each pot of what was skimmed from it, and the journal. A
    bench keeps its present stand, those that can come back by undo and by redo, the last one last, and in a draft all
    three as they were at its beginning.
    """

    def __init__(self, book):
        works = Works(book, [("main", zeros(len(book.wares)))])
        self.stand = (works, (Fill(book, zeros(len(book))),), ())
        self.past = ()
        self.future = ()
        self.before_draft = None
        self.doing = False
        self.said = ()

    def do(self, *deeds):
        self.doing = True
        try:
            stand = done(self.stand, deeds)
        finally:
            self.doing = False
        if deeds:
            self.past = (*self.past, self.stand)
            self.future = ()
            self.stand = stand

    def undo(self):
        if not self.past:
            raise NothingLeft()
        self.future = (*self.future, self.stand)
        self.stand = self.past[-1]
        self.past = self.past[:-1]

    def redo(self):
        if not self.future:
            raise NothingLeft()
        self.past = (*self.past, self.stand)
        self.stand = self.future[-1]
        self.future = self.future[:-1]

    def history(self):
        return (len(self.past), len(self.future))

    def begin(self):
        if self.drafting:
            raise InDraft()
        self.before_draft = (self.stand, self.past, self.future)
        self.past = ()
        self.future = ()

    def keep(self):
        if not self.drafting:
            raise NoDraft()
        stand, past, future = self.before_draft
        if self.past:
            self.past = (*past, stand)
            self.future = ()
        else:
            self.past = past
            self.future = future
        self.before_draft = None

    def drop(self):
        if not self.drafting:
            raise NoDraft()
        self.stand, self.past, self.future = self.before_draft
        self.before_draft = None

    @property
    def present(self):
        return self.stand[0]

    @property
    def drafting(self):
        return self.before_draft is not None

    @property
    def busy(self):
        return self.doing

    def journal(self):
        return list(self.stand[2])

    def skimmed(self, pot):
        return self.stand[1][self.present.pot_place(pot)]

    def rest(self):
        return works_rest(self.present)

    def whole(self):
        found = self.present
        for pot, fill in zip(self.present.pot_names(), self.stand[1]):
            found = found.poured(pot, fill.contents)
        return found

    def loss(self):
        rest = self.rest()
        off = rest.joint.vessel.burden_of(self.all_skimmed())
        return minus(plus(rest.burden, off), works_rest(self.whole()).burden)

    def fair(self):
        held = [*self.rest().joint.fill.lot, *self.all_skimmed().lot]
        return best_rows(self.present, held, [])

    def all_skimmed(self):
        """What was skimmed from all pots, as a fill of the book of the vessel of the works."""
        works, fills, _ = self.stand
        return put_together(works, fills, zeros(len(works.valves)))

    def text(self):
        return bench_text(self.stand)

    def tried(self, *deeds):
        return bench_text(done(self.stand, deeds))

    def say(self, line):
        answer = answer_of(self, line)
        self.said = (*self.said, (copied(line), answer))
        return answer

    def log(self):
        return [(copied(line), answer) for line, answer in self.said]

    def twin(self):
        other = Bench(self.present.book)
        other.stand = self.stand
        other.past = self.past
        other.future = self.future
        other.before_draft = self.before_draft
        other.said = self.said
        return other

    def __call__(self, line):
        return self.say(line)

    def __eq__(self, other):
        return isinstance(other, Bench) and self.stand[:2] == other.stand[:2]

    def __len__(self):
        return len(self.stand[2])

    def __bool__(self):
        return True

    def __repr__(self):
        return f"Bench({len(self.stand[2])} deeds)"


def bench_text(stand):
    works, fills, _ = stand
    lines = [f"skimmed {pot} {row_text(fill.parts)}\n" for pot, fill in zip(works.pot_names(), fills) if fill]
    return "".join([works_text(works), *lines])


def copied(value):
    """A value in which all lists and dicts, also those within others, are copies."""
    if isinstance(value, list):
        return [copied(item) for item in value]
    if isinstance(value, tuple):
        return tuple([copied(item) for item in value])
    if isinstance(value, dict):
        return {key: copied(value[key]) for key in value}
    return value
