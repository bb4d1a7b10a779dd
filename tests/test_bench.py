import random
from unittest import mock

from shutopen.bench import Bench
from shutopen.books import Book
from shutopen.deeds import done, journal_text
from shutopen.errors import (DuplicateName, InDraft, InvalidDeed, InvalidDoor, InvalidFraction, InvalidGate, InvalidName, InvalidRow,
                             InvalidShare, InvalidValve, NoDraft, NothingLeft, NotOpen, Refused, RunsAway, TooMany, Unfillable, Unknown,
                             UnknownGate, UnknownKind, UnknownPot, UnknownValve, UnknownWare, Impossible)
from shutopen.fills import Fill
from shutopen.kinds import Kind
from shutopen.rests import rest_of
from shutopen.works import Works
from shutopen.workrests import is_works_rest, settled, works_rest
from shutopen.worktexts import works_text
from shutopen.workvessels import put_together, works_vessel
from tests.helpers import EXAMPLE, Case, any_values, dot, example_book, frac, fracs, pair, row, wide_kinds

POUR = ("pour", "main", row(4, 1, 0))
DOOR = ("door", "heat", "main", (5, 2))
SKIM = ("skim", "main", "brine", (1, 2))


def example():
    bench = Bench(example_book())
    bench.do(POUR, DOOR)
    return bench


def state_of(bench):
    """All that can be seen of a bench."""
    return (bench.present, [bench.skimmed(pot) for pot in bench.present.pot_names()], bench.journal(), bench.history(), bench.drafting,
            bench.busy, bench.text(), len(bench), bench.log())


def random_deed(rnd):
    """A deed for a book with the wares a and b and the kinds x, y and z, right or not."""
    pots = [rnd.choice(["main", "p"]) for _ in range(2)]
    return rnd.choice([("pot", "p"), ("pour", pots[0], row(rnd.randint(0, 2), rnd.randint(0, 2))), ("take", pots[0], row(1, 0)), ("settle",),
                       ("gate", "a", *pots), ("wall", "a", *pots), ("door", "b", pots[0], pair(rnd.randint(-1, 2))), ("shut", "b", pots[0]),
                       ("valve", "b", *pots, (1, 2)), ("close", "b", *pots), ("skim", pots[0], rnd.choice("xyz"), (1, 2))])


class BenchCase(Case):
    def refused(self, error, bench, *deeds):
        """Holds that a call of do and one of tried raise an error and change nothing."""
        before = state_of(bench)
        caught = self.raised(error, bench.do, *deeds)
        self.assertEqual(state_of(bench), before)
        self.raised(error, bench.tried, *deeds)
        self.assertEqual(state_of(bench), before)
        return caught


class TestMaking(BenchCase):
    def test_beginning(self):
        for book in (example_book(), wide_kinds(24)):
            bench = Bench(book)
            self.assertEqual(bench.present, Works(book, [("main", row(0, 0, 0))]))
            self.assertEqual((bench.skimmed("main"), bench.journal(), bench.history(), bench.drafting, bench.busy, bench.log()),
                             (Fill(book, row(*[0] * len(book))), [], (0, 0), False, False, []))
            self.assertEqual((len(bench), repr(bench), bool(bench), bench.text()), (0, "Bench(0 deeds)", True, works_text(bench.present)))
        self.assertEqual(len(Bench(book=example_book())), 0)

    def test_too_many_kinds(self):
        self.assertEqual(self.raised(TooMany, Bench, wide_kinds(25)).most, 24)

    def test_properties(self):
        for name in ("present", "drafting", "busy"):
            self.assertIsInstance(vars(Bench)[name], property)


class TestDeeds(BenchCase):
    def test_example(self):
        bench = Bench(example_book())
        self.assertIsNone(bench.do(POUR, DOOR))
        self.assertIsNone(bench.do(SKIM))
        self.assertEqual([bench("burden"), bench("amount main brine"), bench("skimmed main brine"), bench("poured main heat"), bench("loss"),
                          bench("what"), bench.history()], ["-1", "1/2", "1/2", "-4", "0", "unknown", (2, 0)])
        self.assertEqual(bench.text(), EXAMPLE + "pot main 5/2 1/2 -4\ndoor heat main 5/2\nskimmed main 0 0 0 1/2 0\n")
        self.assertEqual(bench.journal(), [POUR, DOOR, SKIM])
        self.assertEqual((len(bench), repr(bench)), (3, "Bench(3 deeds)"))

    def test_each_deed(self):
        works = Bench(example_book()).present
        bench = Bench(example_book())
        zeros = row(0, 0, 0)
        steps = [(("pot", "side"), lambda w: w.with_pot("side", zeros)), (("pour", "side", row(3, 2, 1)), lambda w: w.poured("side", row(3, 2, 1))),
                 (("take", "main", row(1, "1/2", 0)), lambda w: w.taken("main", row(1, "1/2", 0))),
                 (("gate", "water", "side", "main"), lambda w: w.with_gate("water", "side", "main")),
                 (("door", "water", "side", (-1, 1)), lambda w: w.with_door("water", "side", (-1, 1))),
                 (("door", "water", "main", (-2, 1)), lambda w: w.with_door("water", "main", (-2, 1))),
                 (("wall", "water", "main", "side"), lambda w: w.without_gate("water", "main", "side")),
                 (("shut", "water", "side"), lambda w: w.with_shut("water", "side")),
                 (("valve", "salt", "side", "main", (1, 4)), lambda w: w.with_valve("salt", "side", "main", (1, 4))),
                 (("valve", "salt", "side", "main", (1, 2)), lambda w: w.with_valve("salt", "side", "main", (1, 2))),
                 (("valve", "heat", "main", "side", (0, 1)), lambda w: w.with_valve("heat", "main", "side", (0, 1))),
                 (("pour", "main", row(4, "1/2", 30)), lambda w: w.poured("main", row(4, "1/2", 30))), (("settle",), settled),
                 (("close", "salt", "side", "main"), lambda w: w.without_valve("salt", "side", "main"))]
        for at, (deed, change) in enumerate(steps):
            bench.do(deed)
            works = change(works)
            self.assertEqual(bench.present, works)
            self.assertEqual((bench.history(), len(bench)), ((at + 1, 0), at + 1))
        self.assertEqual(bench.journal(), [deed for deed, _ in steps])
        together = Bench(example_book())
        together.do(*[deed for deed, _ in steps])
        self.assertEqual((together, together.history()), (bench, (1, 0)))

    def test_skim(self):
        bench = example()
        bench.do(("pot", "side"), SKIM)
        self.assertEqual(bench.skimmed("main"), Fill.of(example_book(), {"brine": (1, 2)}))
        self.assertEqual(bench.skimmed(pot="side"), Fill.of(example_book(), {}))
        self.assertEqual(bench.present.amounts_of("main"), row("5/2", "1/2", -4))
        bench.do(("skim", "main", "brine", (1, 1)), ("skim", "main", "ice", (0, 1)), ("skim", "main", "steam", (1, 1)))
        self.assertEqual(bench.skimmed("main"), Fill.of(example_book(), {"brine": (1, 1)}))
        self.assertEqual(bench.present.amounts_of("main"), row(1, 0, -8))
        bench.do(("skim", "main", "ice", (2, 3)))
        self.assertEqual(bench.skimmed("main").parts, row("2/3", 0, 0, 1, 0))
        self.assertEqual(bench.text().splitlines()[-1], "skimmed main 2/3 0 0 1 0")

    def test_errors_of_deeds(self):
        bench = example()
        bench.do(("pot", "side"), ("gate", "heat", "main", "side"), ("valve", "water", "main", "side", (1, 1)))
        for error, deed in [(InvalidName, ("pot", "Side")), (DuplicateName, ("pot", "main")), (UnknownPot, ("pour", "top", None)),
                            (InvalidRow, ("pour", "side", None)), (UnknownPot, ("take", "top", None)), (InvalidRow, ("take", "side", row(1, 1))),
                            (UnknownWare, ("gate", "fog", "a", "a")), (UnknownPot, ("gate", "heat", "a", "a")), (InvalidGate, ("gate", "heat", "main", "main")),
                            (UnknownGate, ("wall", "water", "main", "side")), (UnknownWare, ("wall", None, "main", "side")),
                            (InvalidFraction, ("door", "heat", "side", 1)), (UnknownPot, ("door", "heat", [], 1)),
                            (NotOpen, ("shut", "water", "main")), (UnknownWare, ("shut", {}, "main")),
                            (InvalidValve, ("valve", "water", "side", "side", None)), (InvalidFraction, ("valve", "water", "side", "main", (-1, 1))),
                            (UnknownValve, ("close", "water", "side", "main")), (UnknownPot, ("close", "water", "side", "top"))]:
            self.refused(error, bench, deed)
            self.refused(error, bench, ("pour", "main", row(1, 1, 1)), deed, ("settle",))
        bench.do(("door", "salt", "main", (1, 1)), ("door", "salt", "side", (2, 1)))
        self.refused(InvalidDoor, bench, ("gate", "salt", "main", "side"))
        self.assertEqual(self.refused(TooMany, bench, *[("gate", "heat", "main", "side")] * 12).most, 12)

    def test_errors_of_skim(self):
        bench = example()
        broken = Bench(example_book())
        broken.do(("take", "main", row(1, 0, 0)))
        for own in (bench, broken):
            for value in [*any_values(), "side", ["main"]]:
                self.assertEqual(self.refused(UnknownPot, own, ("skim", value, None, None)).name, value)
            for value in [*any_values(), "fog", ["ice"]]:
                self.assertEqual(self.refused(UnknownKind, own, ("skim", "main", value, None)).name, value)
            for value in [*any_values(), 0, 1, (2, 4), (-1, 2), (3, 2), (10 ** 9 + 1, 10 ** 9), (1, 1, 1), [1, 2]]:
                self.refused(InvalidShare, own, ("skim", "main", "ice", value))
        caught = self.refused(Unfillable, broken, ("skim", "main", "ice", (1, 2)))
        self.assertEqual(caught.row, self.raised(Unfillable, rest_of, works_vessel(broken.present)).row)
        self.refused(Unfillable, broken, ("settle",))
        bench.do(("door", "heat", "main", (9, 1)), ("door", "water", "main", (9, 1)))
        self.refused(RunsAway, bench, ("skim", "main", "ice", (1, 2)))

    def test_order_of_errors(self):
        bench = example()
        self.assertEqual(self.refused(InvalidDeed, bench, ("pot", "main"), ("pot",), None).at, 1)
        self.assertEqual(self.refused(InvalidDeed, bench, *[POUR] * 50, 7).at, 50)
        self.assertEqual(self.refused(TooMany, bench, *[("pot", "main")] * 39).most, 40)
        self.assertEqual(self.refused(DuplicateName, bench, *[("pot", "main")] * 38).name, "main")
        self.assertEqual(self.refused(UnknownPot, bench, POUR, ("pour", "x", None), ("pour", "y", None)).name, "x")
        for value in any_values():
            self.assertEqual(self.refused(InvalidDeed, bench, value).at, 0)

    def test_forty_deeds(self):
        bench = example()
        bench.do(*[POUR] * 37)
        bench.do(POUR)
        self.assertEqual(len(bench), 40)
        self.assertEqual(self.refused(TooMany, bench, POUR).most, 40)
        bench.do()
        bench.undo()
        self.assertEqual(self.refused(TooMany, bench, POUR, POUR).most, 40)
        bench.do(POUR)
        self.assertEqual((len(bench), len(journal_text(bench.journal()).splitlines())), (40, 40))
        full = Bench(example_book())
        self.refused(TooMany, full, *[POUR] * 41)
        full.do(*[POUR] * 40)
        self.assertEqual(full.history(), (1, 0))

    def test_no_deeds(self):
        bench = example()
        bench.undo()
        bench.do()
        self.assertEqual((bench.history(), len(bench)), ((0, 1), 0))
        self.assertEqual(bench.tried(), bench.text())

    def test_busy_while_deeds_are_done(self):
        bench = example()
        seen = []

        def watched(stand, deeds):
            seen.append(bench.busy)
            return done(stand, deeds)

        with mock.patch("shutopen.bench.done", watched):
            bench.do(SKIM)
            self.refused(DuplicateName, bench, ("pot", "main"))
        self.assertEqual((seen[:2], bench.busy), ([True, True], False))

    def test_given_values_are_kept_as_they_are(self):
        bench = example()
        listed = bench.journal()
        listed.clear()
        self.assertEqual(bench.journal(), [POUR, DOOR])


class TestHistory(BenchCase):
    def test_undo_and_redo(self):
        bench = Bench(example_book())
        texts = [bench.text()]
        for deeds in ([POUR], [DOOR, SKIM], [("settle",)]):
            bench.do(*deeds)
            texts.append(bench.text())
        for at in (2, 1, 0):
            self.assertIsNone(bench.undo())
            self.assertEqual((bench.text(), bench.history()), (texts[at], (at, 3 - at)))
        self.raised(NothingLeft, bench.undo)
        self.assertEqual(bench.journal(), [])
        for at in (1, 2, 3):
            self.assertIsNone(bench.redo())
            self.assertEqual((bench.text(), bench.history()), (texts[at], (at, 3 - at)))
        self.raised(NothingLeft, bench.redo)
        self.assertEqual(bench.journal(), [POUR, DOOR, SKIM, ("settle",)])

    def test_new_steps_empty_what_can_be_redone(self):
        bench = example()
        bench.do(SKIM)
        bench.undo()
        self.assertEqual(bench.history(), (1, 1))
        self.refused(DuplicateName, bench, ("pot", "main"))
        self.assertEqual(bench.history(), (1, 1))
        bench.do(("settle",))
        self.assertEqual(bench.history(), (2, 0))
        self.raised(NothingLeft, bench.redo)

    def test_drafts_kept(self):
        bench = example()
        bench.do(SKIM)
        bench.undo()
        self.assertIsNone(bench.begin())
        self.assertEqual((bench.drafting, bench.history()), (True, (0, 0)))
        self.raised(NothingLeft, bench.undo)
        self.raised(NothingLeft, bench.redo)
        self.raised(InDraft, bench.begin)
        bench.do(("pot", "a"))
        bench.do(("pot", "b"), ("pot", "c"))
        bench.do(("settle",))
        bench.undo()
        self.assertEqual((bench.history(), len(bench)), ((2, 1), 5))
        self.assertIsNone(bench.keep())
        self.assertEqual((bench.drafting, bench.history(), len(bench)), (False, (2, 0), 5))
        self.raised(NoDraft, bench.keep)
        self.raised(NoDraft, bench.drop)
        bench.undo()
        self.assertEqual((bench.history(), bench.journal()), ((1, 1), [POUR, DOOR]))
        bench.redo()
        self.assertEqual((bench.history(), bench.present.pot_names()), ((2, 0), ("main", "a", "b", "c")))

    def test_drafts_kept_without_deeds(self):
        for undone in (0, 1):
            bench = example()
            bench.do(SKIM)
            bench.undo()
            before = state_of(bench)
            bench.begin()
            for _ in range(undone):
                bench.do(("pot", "a"))
                bench.do(("pot", "b"))
                bench.undo()
                bench.undo()
            bench.do()
            bench.keep()
            self.assertEqual(state_of(bench), before)
            bench.redo()
            self.assertEqual(bench.journal(), [POUR, DOOR, SKIM])

    def test_drafts_dropped(self):
        for deeds in ([], [("pot", "a")], [("pot", "a"), ("settle",), ("skim", "main", "ice", (1, 1))]):
            bench = example()
            bench.do(SKIM)
            bench.undo()
            before = state_of(bench)
            bench.begin()
            for deed in deeds:
                bench.do(deed)
            if deeds:
                bench.undo()
            bench.say("deeds")
            self.assertIsNone(bench.drop())
            self.assertEqual(state_of(bench)[:-1], before[:-1])
            self.assertEqual(bench.log(), [("deeds", str(2 + max(0, len(deeds) - 1)))])
            bench.redo()
            bench.undo()
            bench.undo()
            self.assertEqual(bench.journal(), [])
            self.raised(NoDraft, bench.drop)

    def test_the_journal_counts_the_deeds_of_a_draft(self):
        bench = example()
        bench.begin()
        bench.do(*[POUR] * 38)
        self.refused(TooMany, bench, POUR)
        bench.drop()
        self.assertEqual(len(bench), 2)

    def test_random_history(self):
        """Holds a bench against a plain list of steps and a place in it, with a copy of both at the beginning of a draft."""
        rnd = random.Random(241)
        for _ in range(25):
            bench = Bench(Book(["a", "b"], Kind("x", (1, 0)), Kind("y", (0, 1), cost=(1, 1)), Kind("z", (1, 1), cost=(1, 2))))
            steps, undone, outside = [], [], None
            for _ in range(25):
                move = rnd.choice(["do", "do", "do", "undo", "redo", "begin", "keep", "drop"])
                deeds = [random_deed(rnd) for _ in range(rnd.randint(0, 3))]
                try:
                    if move == "do":
                        bench.do(*deeds)
                        if deeds:
                            steps, undone = steps + [deeds], []
                    elif move == "undo":
                        bench.undo()
                        undone.append(steps.pop())
                    elif move == "redo":
                        bench.redo()
                        steps.append(undone.pop())
                    elif move == "begin":
                        bench.begin()
                        outside = (steps, undone)
                        steps, undone = [], []
                    elif move == "keep":
                        bench.keep()
                        merged = [deed for step in steps for deed in step]
                        steps, undone = (outside[0] + [merged], []) if merged else outside
                        outside = None
                    else:
                        bench.drop()
                        steps, undone = outside
                        outside = None
                except NothingLeft:
                    self.assertFalse(steps if move == "undo" else undone)
                except InDraft:
                    self.assertEqual((move, outside is None), ("begin", False))
                except NoDraft:
                    self.assertTrue(move in ("keep", "drop") and outside is None)
                except (Refused, Unknown, Impossible):
                    self.assertEqual(move, "do")
                self.assertEqual((bench.history(), bench.drafting, bench.busy), ((len(steps), len(undone)), outside is not None, False))
                ahead = outside[0] if outside else []
                self.assertEqual(bench.journal(), [deed for step in ahead + steps for deed in step])
            again = Bench(bench.present.book)
            for deed in bench.journal():
                again.do(deed)
            self.assertEqual(again, bench)


class TestWholeAndLoss(BenchCase):
    def check(self, bench):
        """Holds the whole, the loss and the fair rows against [36]; returns the loss."""
        works = bench.present
        fills = [bench.skimmed(pot) for pot in works.pot_names()]
        whole = works
        for pot, fill in zip(works.pot_names(), fills):
            whole = whole.poured(pot, fill.contents)
        self.assertEqual(bench.whole(), whole)
        costs = fracs(works_vessel(works).net_costs())
        parts = [part for fill in fills for part in fracs(fill.parts)]
        off = sum(part * cost for part, cost in zip(parts, costs))
        loss = frac(works_rest(works).burden) + off - frac(works_rest(whole).burden)
        self.assertEqual(frac(bench.loss()), loss)
        self.assertGreaterEqual(loss, 0)
        rows = bench.fair()
        self.assertEqual(rows is None, loss > 0)
        if rows is not None:
            rest = bench.rest()
            self.assertTrue(is_works_rest(works, rest.fills, rest.flows, rows))
            for own, fill in zip(rows, fills):
                for kind, part in zip(works.book.kinds, fracs(fill.parts)):
                    self.assertTrue(part == 0 or frac(kind.cost) == dot(own, kind.as_row()))
        return loss

    def test_rest(self):
        bench = example()
        rest = bench.rest()
        expected = works_rest(bench.present)
        self.assertEqual((rest.plan, rest.fills, rest.flows, rest.rows, rest.burden),
                         (bench.present, expected.fills, expected.flows, expected.rows, expected.burden))

    def test_example(self):
        bench = example()
        self.assertEqual(self.check(bench), 0)
        bench.do(SKIM)
        self.assertEqual(self.check(bench), 0)
        self.assertEqual(bench.whole(), example().present)
        # At the heat price 7/2 ice and brine do not rest together; so the ice of before could be used.
        bench = example()
        bench.do(("skim", "main", "ice", (1, 1)), ("door", "heat", "main", (7, 2)))
        self.assertEqual(self.check(bench), 1)
        bench.do(("door", "heat", "main", (5, 2)))
        self.assertEqual(self.check(bench), 0)

    def test_random_benches(self):
        rnd = random.Random(242)
        count = {"no loss": 0, "loss": 0}
        for _ in range(120):
            kinds = [Kind("x", (1, 0), cost=pair(rnd.randint(0, 3))), Kind("y", (0, 1), cost=pair(rnd.randint(0, 3))),
                     Kind("z", (1, 1), cost=pair(rnd.randint(0, 5))), Kind("u", (rnd.randint(0, 2), rnd.randint(1, 2)), cost=pair(rnd.randint(0, 6)))]
            bench = Bench(Book(["a", "b"], *kinds))
            bench.do(("pot", "p"), ("pour", "main", row(rnd.randint(0, 4), rnd.randint(0, 4))), ("pour", "p", row(rnd.randint(0, 4), rnd.randint(0, 4))))
            deeds = [("valve", "a", "main", "p", pair(rnd.randint(0, 1))), ("gate", "b", "p", "main"), ("door", "a", "p", pair(rnd.randint(-1, 3))),
                     ("door", "b", "main", pair(rnd.randint(-1, 3))), ("pour", "p", row(1, 2)), ("settle",)]
            skims = [("skim", rnd.choice(["main", "p"]), rnd.choice("xyzu"), pair(rnd.choice([1, "1/2", "1/3"]))) for _ in range(4)]
            for deed in rnd.sample(deeds + skims, 6):
                try:
                    bench.do(deed)
                except Impossible:
                    bench.undo()
            if bench("end") == "rests":
                loss = self.check(bench)
                if any(bench.skimmed(pot) for pot in ("main", "p")):
                    count["loss" if loss else "no loss"] += 1
        self.assertGreater(min(count.values()), 8)

    def test_errors(self):
        bench = example()
        bench.do(SKIM, ("take", "main", row(5, 0, 0)))
        expected = self.raised(Unfillable, works_rest, bench.present).row
        for function in (bench.rest, bench.loss, bench.fair):
            self.assertEqual(self.raised(Unfillable, function).row, expected)
        self.assertEqual(bench.whole().amounts_of("main"), row(-1, 1, 0))
        bench.do(("door", "water", "main", (99, 1)))
        for function in (bench.rest, bench.loss, bench.fair):
            caught = self.raised(RunsAway, function)
            self.assertEqual((caught.fill, caught.mixture), self.runs(bench))
        for value in [*any_values(), "side", ["main"]]:
            self.assertEqual(self.raised(UnknownPot, bench.skimmed, value).name, value)

    def runs(self, bench):
        caught = self.raised(RunsAway, works_rest, bench.present)
        return caught.fill, caught.mixture

    def test_skimmed_together(self):
        bench = example()
        bench.do(("pot", "side"), ("pour", "side", row(1, 1, 0)), SKIM)
        self.assertEqual(put_together(bench.present, [bench.skimmed(pot) for pot in ("main", "side")], ()).lot, ("main.brine",))
        self.assertEqual(self.check(bench), 0)


class TestTwinsAndTexts(BenchCase):
    def test_tried(self):
        bench = example()
        before = state_of(bench)
        text = bench.tried(SKIM, ("pot", "side"))
        self.assertEqual(state_of(bench), before)
        bench.do(SKIM, ("pot", "side"))
        self.assertEqual(bench.text(), text)
        bench.begin()
        before = state_of(bench)
        bench.tried(("settle",))
        self.assertEqual(state_of(bench), before)

    def test_text(self):
        bench = example()
        bench.do(("pot", "b"), ("pot", "a"), ("pour", "a", row(2, 0, 0)), ("valve", "salt", "a", "b", (1, 2)), ("skim", "a", "ice", (1, 2)), SKIM)
        self.assertEqual(bench.text(), EXAMPLE + "pot main 5/2 1/2 -4\npot b 0 0 0\npot a 1 0 0\ndoor heat main 5/2\nvalve salt a b 1/2\n"
                         "skimmed main 0 0 0 1/2 0\nskimmed a 1 0 0 0 0\n")
        bench.undo()
        self.assertEqual(bench.text(), works_text(bench.present))

    def test_twin(self):
        bench = example()
        bench.do(SKIM)
        bench.undo()
        bench.begin()
        bench.do(("pot", "a"))
        bench.do(("pot", "b"))
        bench.undo()
        bench.say(["deeds"])
        other = bench.twin()
        self.assertIs(type(other), Bench)
        self.assertEqual(state_of(other), state_of(bench))
        before = state_of(bench)
        other.redo()
        other.do(("pot", "c"))
        other.keep()
        other.say("deeds")
        other.undo()
        other.undo()
        self.assertEqual((other.history(), other.journal()), ((0, 2), []))
        self.assertEqual(state_of(bench), before)
        led = bench.twin()
        before = state_of(led)
        bench.drop()
        bench.redo()
        bench("end")
        self.assertEqual(bench.journal(), [POUR, DOOR, SKIM])
        self.assertEqual(state_of(led), before)
        self.assertEqual((len(led.log()), len(bench.log()), len(other.log())), (1, 2, 2))
        led.drop()
        self.assertEqual((led.history(), led.journal()), ((1, 1), [POUR, DOOR]))

    def test_equal(self):
        one, other = example(), Bench(example_book())
        self.assertNotEqual(one, other)
        other.do(("pour", "main", row(4, 1, 1)), DOOR, ("take", "main", row(0, 0, 1)))
        self.assertEqual(one, other)
        other.begin()
        other.say("x")
        self.assertEqual(one, other)
        one.do(SKIM)
        self.assertNotEqual(one, other)
        other.do(("take", "main", row("3/2", "1/2", 4)))
        self.assertEqual(one.present, other.present)
        self.assertNotEqual(one, other)
        self.assertNotEqual(Bench(example_book()), Bench(example_book().without("ice")))
        for value in [*any_values(), one.present, one.text()]:
            self.assertNotEqual(one, value)

    def test_always_true(self):
        self.assertIs(bool(Bench(example_book())), True)
        self.assertEqual(len(Bench(example_book())), 0)
