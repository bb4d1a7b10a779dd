import random

from shutopen.books import Book, wide_book
from shutopen.downhill import apart, downhill
from shutopen.fills import Fill
from shutopen.kinds import Kind
from shutopen.lacks import touched
from shutopen.looks import Looks
from shutopen.lots import together
from shutopen.needless import needless
from shutopen.owners import Owners
from shutopen.papers import book_papers, holds, papers_of
from shutopen.reactions import Reaction
from shutopen.rests import end_of, hollow_paper
from shutopen.sure import maybe
from shutopen.vessels import Vessel
from shutopen.works import Works
from shutopen.workvessels import works_vessel
from tests.helpers import Case, any_values, example_book, example_vessel, random_vessels, row, wide_kinds
from tests.test_looks import NONE, one_of
from tests.test_needless import mixed_books


class PaperCase(Case):
    def right(self, *paper):
        self.assertIs(holds(paper), True, paper)
        self.assertIs(holds(value=paper), True)

    def wrong(self, *paper):
        self.assertIs(holds(paper), False, paper)

    def check(self, *paper):
        """Holds that a paper is right, and not any more with another word, size, or any value as one of its items."""
        self.right(*paper)
        self.wrong(*paper, None)
        self.wrong(*paper[:-1])
        self.assertIs(holds(list(paper)), False)
        self.assertIs(holds([paper]), False)
        self.wrong(paper)
        for at in range(len(paper)):
            for value in [*any_values(), [paper[at]], (paper[at],)]:
                # The empty lot rests together with any borne price row.
                if value != paper[at] and (paper[0], at, value) != ("together", 2, ()):
                    self.wrong(*paper[:at], value, *paper[at + 1:])
        for at in range(1, len(paper)):
            if isinstance(paper[at], tuple):
                self.wrong(*paper[:at], list(paper[at]), *paper[at + 1:])
                if paper[0] != "together" or at != 2:
                    self.wrong(*paper[:at], paper[at][1:], *paper[at + 1:])


class TestVesselPapers(PaperCase):
    def setUp(self):
        self.book = example_book()
        self.vessel = example_vessel()
        self.fill = Fill.of(self.book, {"ice": (1, 1), "brine": (1, 1)})
        self.row = row(0, -2, "5/2")

    def test_rest(self):
        self.check("rest", self.vessel, self.fill, self.row)
        self.wrong("rest", example_vessel(("open", (3, 1))), self.fill, self.row)
        self.wrong("rest", self.vessel, Fill.of(self.book, {"ice": (4, 1), "salt": (1, 1)}), self.row)
        self.wrong("rest", self.vessel, self.fill + self.fill, self.row)
        for bent in (row(0, -2, 3), row(0, -3, "5/2"), row(0, 0, "5/2"), row(0, -2), row(0, -2, "5/2", 0)):
            self.wrong("rest", self.vessel, self.fill, bent)
        self.wrong("runs", self.vessel, self.fill, self.row)
        moved = Vessel(self.book.moved(row(0, 0, 0)), self.vessel.states)
        self.right("rest", moved, self.fill, self.row)
        self.wrong("rest", Vessel(self.book.moved(row(1, 0, 0)), self.vessel.states), self.fill, self.row)

    def test_unfillable(self):
        vessel = example_vessel(("shut", (49, 1)))
        self.check("unfillable", vessel, row(-12, 0, 1))
        for bent in (row(0, 0, 1), row(-12, 0, -1), row(0, 0, 0), row(-13, 0, 1), row(-12, 0)):
            self.wrong("unfillable", vessel, bent)
        self.wrong("unfillable", self.vessel, row(-12, 0, 1))
        self.wrong("unfillable", example_vessel(("shut", (48, 1))), row(-12, 0, 1))

    def test_runs(self):
        book = Book(["a"], Kind("x", (1,), cost=(-2, 1)), Kind("y", (-1,), cost=(1, 1)))
        vessel = Vessel(book, [("shut", (1, 1))])
        fill = Fill(book, row(1, 0))
        self.check("runs", vessel, fill, row(1, 1))
        self.right("runs", vessel, fill, row(7, 7))
        for bent in (row(1, 0), row(0, 0), row(-1, -1), row(1,)):
            self.wrong("runs", vessel, fill, bent)
        self.wrong("runs", vessel, Fill(book, row(2, 0)), row(1, 1))

    def test_downhill(self):
        fill = Fill.of(self.book, {"ice": (4, 1), "salt": (1, 1)})
        reaction = Reaction(self.book, (-3, 0, -1, 1, 0))
        self.assertEqual(downhill(self.vessel, fill), reaction)
        self.check("downhill", self.vessel, fill, reaction)
        self.wrong("downhill", self.vessel, fill, -reaction)
        self.wrong("downhill", self.vessel, self.fill, reaction)
        self.wrong("downhill", self.vessel, fill * (2, 1), reaction)
        self.wrong("downhill", self.vessel, fill, Reaction(self.book, (-1, 1, 0, 0, 0)))
        self.wrong("downhill", self.vessel, fill, Reaction(self.book, (-1, 0, 0, 0, 0)))
        self.wrong("downhill", self.vessel, fill, Reaction(self.book.moved(row(1, 0, 0)), reaction.parts))
        # What is not least can go downhill as well: 4 ice and 1 salt to 1 water and 1 brine cost -1; 6 ice and 1 salt
        # to 3 water and 1 brine cost 1.
        self.right("downhill", self.vessel, fill, Reaction(self.book, (-4, 1, -1, 1, 0)))
        self.wrong("downhill", self.vessel, fill, Reaction(self.book, (-6, 3, -1, 1, 0)))
        self.wrong("downhill", self.vessel, fill, Reaction(self.book, (0, 0, 0, 1, 0)))
        self.wrong("downhill", example_vessel(("open", (9, 4))), fill, reaction)
        book = Book(["a"], Kind("x", (1,), cost=(-2, 1)), Kind("y", (-1,), cost=(1, 1)))
        self.right("downhill", Vessel(book, [("shut", (0, 1))]), Fill(book, row(0, 0)), Reaction(book, (3, 3)))

    def test_barred(self):
        self.check("barred", self.vessel, self.fill, self.row, "steam")
        self.right("barred", self.vessel, self.fill, self.row, "salt")
        for name in ("ice", "brine", "fog", "heat"):
            self.wrong("barred", self.vessel, self.fill, self.row, name)
        self.wrong("barred", self.vessel, self.fill, row(0, -3, "5/2"), "steam")


class TestBookPapers(PaperCase):
    def setUp(self):
        self.book = example_book()
        self.vessel = example_vessel()

    def test_hollow(self):
        book = Book(["a"], Kind("x", (1,), cost=(-2, 1)), Kind("y", (-3,), cost=(1, 1)))
        self.check("hollow", book, row(3, 1))
        for bent in (row(1, 1), row(0, 0), row(-3, -1), row(3, 1, 0)):
            self.wrong("hollow", book, bent)
        self.wrong("hollow", Book(["a"], Kind("x", (1,)), Kind("y", (-3,))), row(3, 1))

    def test_together(self):
        self.check("together", self.book, ("ice", "brine"), row(0, -2, "5/2"))
        self.right("together", self.book, ("brine", "ice"), row(0, 0, "9/4"))
        self.right("together", self.book, (), row(-1, -1, 0))
        self.right("together", self.book, ("salt", "brine", "ice"), row(0, 0, "9/4"))
        self.wrong("together", self.book, ("salt", "brine", "ice"), row(0, -2, "5/2"))
        self.wrong("together", self.book, ("ice", "ice"), row(0, -2, "5/2"))
        self.wrong("together", self.book, ("ice", "fog"), row(0, -2, "5/2"))
        self.wrong("together", self.book, ["ice"], row(0, -2, "5/2"))
        self.wrong("together", self.book, "ice", row(0, -2, "5/2"))
        self.wrong("together", self.book, ("ice",), row(0, 1, "5/2"))

    def test_apart(self):
        reaction = apart(self.book, ("water", "salt"))
        self.check("apart", self.book, ("water", "salt"), reaction)
        self.right("apart", self.book, ("steam", "salt", "water"), reaction)
        self.wrong("apart", self.book, ("water",), reaction)
        self.wrong("apart", self.book, ("water", "salt", "fog"), reaction)
        twins = Book(["a"], Kind("x", (1,), cost=(1, 1)), Kind("y", (1,), cost=(1, 1)), Kind("z", (1,)))
        self.wrong("apart", twins, ("x",), Reaction(twins, (-1, 1, 0)))
        self.right("apart", twins, ("x",), Reaction(twins, (-1, 0, 1)))
        self.wrong("apart", twins, ("x",), Reaction(twins, (-2, 0, 1)))
        self.wrong("apart", self.book, ("salt",), reaction)
        self.wrong("apart", self.book, ("water", "salt", "salt"), reaction)
        self.wrong("apart", self.book, ["water", "salt"], reaction)
        self.wrong("apart", self.book, ("water", "salt"), -reaction)
        self.wrong("apart", self.book, ("ice", "brine"), -reaction)
        self.wrong("apart", self.book, ("water", "salt", "steam"), Reaction(self.book, (1, -1, 0, 0, 0)))
        self.wrong("apart", self.book.moved(row(0, 0, 0)).without("steam"), ("water", "salt"), reaction)
        hollow = Book(["a"], Kind("x", (1,), cost=(-1, 1)), Kind("y", (-1,)))
        self.right("apart", hollow, (), Reaction(hollow, (1, 1)))

    def test_needless_and_never(self):
        for cost, is_needless, is_never in [((5, 1), False, False), ((6, 1), True, False), ((13, 2), True, True)]:
            book = self.book.with_kind(Kind("slush", (2, 0, 2), cost=cost))
            for word, right in (("needless", is_needless), ("never", is_never)):
                paper = (word, book, "slush", row(1, 1, 0, 0, 0, 0))
                if right:
                    self.check(*paper)
                else:
                    self.wrong(*paper)
        for bent in (row(0, 0, 0, 0, 0, 1), row(2, 0, 0, 0, 0, 0), row(1, 1, 0, 0, 0), row(1, 1, 0, 0, 0, "1/2"), row("1/2", "1/2", 0, 0, 0, "1/2"),
                     row(1, 1, -1, 0, 0, 0)):
            self.wrong("needless", book, "slush", bent)
            self.wrong("never", book, "slush", bent)
        self.wrong("needless", book, "ice", row(1, 1, 0, 0, 0, 0))
        self.wrong("never", book, "fog", row(1, 1, 0, 0, 0, 0))

    def test_shows(self):
        self.check("shows", self.book, "ice", row(0, -2, "5/2"))
        for name in ("water", "steam", "fog", "heat"):
            self.wrong("shows", self.book, name, row(0, -2, "5/2"))
        self.wrong("shows", self.book, "salt", row(9, 0, 0))

    def test_parts(self):
        other = self.book.without("steam")
        self.check("parts", other, self.book, row(-10, 0, 5))
        self.wrong("parts", self.book, other, row(-10, 0, 5))
        self.wrong("parts", other, self.book, row(0, -2, "5/2"))
        self.wrong("parts", other, self.book, row(9, 9, 9))
        wares = Book(["water", "salt", "cold"], *self.book.kinds)
        self.wrong("parts", other, wares, row(-10, 0, 5))
        self.wrong("parts", other, other, row(-10, 0, 5))


class TestOtherPapers(PaperCase):
    def test_undone(self):
        vessel = example_vessel()
        owners = Owners(vessel, ("ada", row(4, 0, 0)), ("ben", row(0, 1, 0)))
        fill = Fill.of(vessel.book, {"brine": (4, 1)})
        self.check("undone", owners, row(-1, -1), (3, 4), fill)
        self.wrong("undone", owners, row(0, -2), (3, 4), fill)
        self.wrong("undone", owners, row(-1, -1), (4, 3), fill)
        self.wrong("undone", owners, row(-1, -1), (3, True), fill)
        self.wrong("undone", owners, row(-1, -1), (3, -4), fill)
        self.wrong("undone", owners, row(-1, -1), (3, 4, 0), fill)
        self.wrong("undone", owners, row(-1, -1, 0), (3, 4), fill)
        self.wrong("undone", owners, row(-1, -1), ((3, 1), (4, 1)), fill)
        self.wrong("undone", owners, row(-1, -1), (3, 4), Fill.of(vessel.book, {"ice": (12, 1), "salt": (4, 1)}))
        self.wrong("undone", owners, row("-8/7", "-8/7"), (3, 4), fill)
        self.right("undone", owners, row("-8/7", "-799/700"), (3, 4), fill)
        # Shares may have any sum.
        self.right("undone", owners, row(5, 7), (0, 1), Fill.of(vessel.book, {"salt": (1, 1)}))
        self.wrong("undone", owners, row(0, 0), (0, 0), Fill.of(vessel.book, {}))
        debts = Owners(vessel, ("ada", row(5, 1, 0)), ("ben", row(-1, 0, 0)))
        self.right("undone", debts, row(9, -1), (1, 1), Fill.of(vessel.book, {"ice": (4, 1), "salt": (1, 1)}))
        self.wrong("undone", debts, row(9, -1), (0, -1), Fill.of(vessel.book, {"ice": (1, 1)}))

    def test_clash(self):
        book = example_book()
        ice = one_of(book, "ice")
        looks = Looks(book, sayings=[(ice, (1, 1), None), (ice, None, (1, 2))])
        self.check("clash", looks, row(1, 1))
        self.right("clash", looks, row("1/3", "1/3"))
        for bent in (row(1, 2), row(2, 1), row(0, 0), row(1), row(1, 1, 1), row(-1, -1)):
            self.wrong("clash", looks, bent)
        self.wrong("clash", Looks(book, sayings=[(ice, (1, 1), None), (ice, None, (1, 1))]), row(1, 1))
        more = looks.with_look((("ice",), NONE))
        self.right("clash", more, more.fit()[1])
        self.wrong("clash", more, row(1, 1))
        self.wrong("clash", Looks(book), ())

    def test_sure(self):
        book = example_book()
        looks = Looks(book, looks=[(("ice", "brine"), (None, None, (5, 2)))])
        costs = row(-1, 1, 0, 0, 0)
        word, weights = looks.sure(costs, (5, 1))
        self.check(word, looks, costs, (5, 1), weights)
        self.right("sure", looks, costs, (4, 1), weights)
        self.wrong("sure", looks, costs, (501, 100), weights)
        self.wrong("sure", looks, costs, 5, weights)
        self.wrong("sure", looks, row(1, -1, 0, 0, 0), (5, 1), weights)
        self.wrong("sure", looks, costs, (5, 1), tuple([(n + 1, d) for n, d in weights]))
        self.wrong("sure", looks, costs, (5, 1), weights + row(0))
        self.wrong("sure", looks, costs, (5, 1), tuple([(-n, d) for n, d in weights]))
        self.right("sure", Looks(book), row(0, 0, 0, 0, 0), (0, 1), ())
        self.right("sure", Looks(book), row(0, 0, 0, 0, 0), (-7, 3), ())
        self.wrong("sure", Looks(book), row(0, 0, 0, 0, 0), (1, 3), ())
        self.wrong("sure", Looks(book), row(0, 0, 0, 0, 1), (0, 1), ())

    def test_values_that_are_no_papers(self):
        for value in [*any_values(), ("rest",), ("REST", None, None, None), (["rest"], 1, 2, 3), (("rest", 1, 2, 3),),
                      ("paper", 1, 2), ("unfillable", None, None), ("wholly",), ("rest", None, None, None)]:
            self.assertIs(holds(value), False)
        for size in range(6):
            for word in ("rest", "unfillable", "runs", "hollow", "downhill", "together", "apart", "barred", "needless", "never", "shows", "parts",
                         "undone", "clash", "sure"):
                for value in any_values():
                    self.assertIs(holds((word, *[value] * size)), False)

    def test_papers_that_the_program_returns(self):
        looks_for = random.Random(271)
        words = {}
        for vessel in random_vessels(272, 120):
            book = vessel.book
            lot = tuple(looks_for.sample(book.names, looks_for.randint(0, min(3, len(book)))))
            found = together(book, lot)
            paper = ("apart", book, lot, apart(book, lot)) if found is None else ("together", book, lot, found[0])
            papers = [paper]
            if hollow_paper(book) is not None:
                papers.append(("hollow", book, hollow_paper(book)))
            fill = Fill(book, row(*[looks_for.randint(0, 1) for _ in book.names]))
            there = vessel.with_amounts(fill.contents)
            reaction = downhill(there, fill)
            if reaction is not None:
                papers.append(("downhill", there, fill, reaction))
            for name in book.names:
                if needless(book, name) is not None:
                    papers.append(("needless", book, name, needless(book, name)))
            for paper in papers:
                self.right(*paper)
                words[paper[0]] = words.get(paper[0], 0) + 1
        self.assertEqual(set(words), {"apart", "together", "hollow", "downhill", "needless"})


class TestPapersOf(PaperCase):
    def check_vessel(self, vessel):
        found = papers_of(vessel)
        self.assertIs(type(found), list)
        self.assertEqual(papers_of(vessel=Vessel(vessel.book, vessel.states)), found)
        for paper in found:
            self.right(*paper)
            self.assertEqual(paper[1], vessel)
        end = end_of(vessel)
        if end[0] != "rests":
            self.assertEqual([paper[0] for paper in found], [end[0]])
            return end[0]
        self.assertEqual((found[0][0], found[0][2]), ("rest", end[1]))
        lot = maybe(vessel)[0]
        self.assertEqual([(paper[0], paper[4]) for paper in found[1:]], [("barred", name) for name in vessel.book.names if name not in lot])
        return "rest"

    def test_example(self):
        self.assertEqual(self.check_vessel(example_vessel()), "rest")
        self.assertEqual([paper[4] for paper in papers_of(example_vessel())[1:]], ["water", "salt", "steam"])
        self.assertEqual(self.check_vessel(example_vessel(("shut", (49, 1)))), "unfillable")

    def test_random_vessels(self):
        words = {"rest": 0, "unfillable": 0, "runs": 0}
        for vessel in random_vessels(273, 150):
            words[self.check_vessel(vessel)] += 1
        self.assertGreater(min(words.values()), 10)

    def test_works(self):
        works = Works(example_book(), [("a", row(0, 1, 0)), ("b", row(4, 0, 0))], doors=[("heat", "a", (5, 2)), ("heat", "b", (5, 2))],
                      valves=[("water", "b", "a", (1, 4))])
        self.assertEqual(self.check_vessel(works_vessel(works)), "rest")


class TestBookPapersOf(PaperCase):
    def check_book(self, book):
        found = book_papers(book)
        self.assertIs(type(found), list)
        self.assertEqual(book_papers(book=book.moved(row(*[0] * len(book.wares)))), found)
        for paper in found:
            self.right(*paper)
            self.assertEqual(paper[1], book)
        if hollow_paper(book) is not None:
            self.assertEqual([paper[0] for paper in found], ["hollow"])
            return ["hollow"]
        expected = []
        for name in book.names:
            expected.append(("shows" if together(book, [name]) else "never", name))
            if needless(book, name) is not None:
                expected.append(("needless", name))
        self.assertEqual([(paper[0], paper[2]) for paper in found], expected)
        return [paper[0] for paper in found]

    def test_example(self):
        self.assertEqual(self.check_book(example_book()), ["shows"] * 5)
        book = Book(["water"], Kind("ice", (1,)), Kind("gem", (2,), cost=(3, 1)), Kind("slush", (2,)))
        self.assertEqual(self.check_book(book), ["shows", "needless", "never", "needless", "shows", "needless"])
        self.assertEqual(touched(book, book_papers(book)[0][3])[0], "ice")

    def test_random_books(self):
        words = {"hollow": 0, "shows": 0, "never": 0, "needless": 0}
        for book in mixed_books(274, 120):
            for word in self.check_book(book):
                words[word] += 1
        self.assertGreater(min(words.values()), 10)

    def test_wide_books(self):
        self.check_book(wide_kinds(14))
        self.check_book(wide_book(("a.a",), [("x.x", (10 ** 20,), (1, 10 ** 20)), ("y.y", (-1,), (0, 1)), ("z", (0,), (5, 1))]))
