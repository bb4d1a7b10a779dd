import random

from shutopen.bench import Bench
from shutopen.books import Book
from shutopen.deeds import journal_text
from shutopen.errors import InvalidText, Refused, Unknown, Impossible
from shutopen.journals import replay
from shutopen.kinds import Kind
from tests.helpers import Case, any_values, example_book, pair, row
from tests.test_bench import random_deed

TEXT = ("pour main 4 1 0\n"
        "door heat main 5/2\n"
        "skim main brine 1/2\n"
        "pot side\n"
        "gate heat side main\n"
        "valve water main side 1/4\n"
        "take side -1 -1/2 0\n"
        "settle\n"
        "close water main side\n"
        "wall heat main side\n"
        "shut heat main\n")


class JournalCase(Case):
    def fault(self, text, book=None):
        caught = self.raised(InvalidText, replay, example_book() if book is None else book, text)
        return caught.line, caught.why


class TestThereAndBack(JournalCase):
    def test_text(self):
        bench = replay(example_book(), TEXT)
        self.assertIs(type(bench), Bench)
        self.assertEqual((journal_text(bench.journal()), bench.history(), len(bench), bench.drafting, bench.log()), (TEXT, (11, 0), 11, False, []))
        again = Bench(example_book())
        again.do(*bench.journal())
        self.assertEqual(again, bench)
        self.assertEqual(replay(text=TEXT, book=example_book()).text(), bench.text())
        bench.undo()
        self.assertEqual(len(bench), 10)

    def test_empty(self):
        bench = replay(example_book(), "")
        self.assertEqual((bench, bench.history(), bench.journal()), (Bench(example_book()), (0, 0), []))

    def test_random_journals(self):
        rnd = random.Random(261)
        book = Book(["a", "b"], Kind("x", (1, 0)), Kind("y", (0, 1), cost=(1, 1)), Kind("z", (1, 1), cost=(1, 2)))
        for _ in range(40):
            bench = Bench(book)
            for _ in range(20):
                try:
                    bench.do(random_deed(rnd))
                except (Refused, Unknown, Impossible):
                    pass
            again = replay(book, journal_text(bench.journal()))
            self.assertEqual((again, again.journal(), again.text()), (bench, bench.journal(), bench.text()))
            self.assertEqual(again.history(), (len(bench), 0))

    def test_forty_lines_and_more(self):
        line = "pour main 1 0 0\n"
        self.assertEqual(len(replay(example_book(), line * 40)), 40)
        for behind in (line, "pot main\n", line + "x\n", line + "x"):
            self.assertEqual(self.fault(line * 40 + behind), (40, "many"))
        self.assertEqual(self.fault(line * 40 + "pot Main\n"), (40, "form"))
        self.assertEqual(self.fault(line * 40 + "pot main"), (40, "form"))
        self.assertEqual(self.fault("pot main\n" + line * 40), (0, "refused"))


class TestFaults(JournalCase):
    def check(self, why, *lines):
        """Holds why the last of some lines cannot stand."""
        text = "".join([f"{line}\n" for line in lines])
        self.assertEqual(self.fault(text), (len(lines) - 1, why), lines)
        self.assertEqual(self.fault(text + "x\n"), (len(lines) - 1, why), lines)

    def test_values_that_are_no_strings(self):
        for value in any_values():
            if not isinstance(value, str):
                self.assertEqual(self.fault(value), (0, "form"))

    def test_cut_texts(self):
        for cut in range(len(TEXT)):
            text = TEXT[:cut]
            if text == "" or text.endswith("\n"):
                self.assertEqual(journal_text(replay(example_book(), text).journal()), text)
            else:
                self.assertEqual(self.fault(text), (text.count("\n"), "form"))

    def test_lines_left_out_doubled_and_exchanged(self):
        lines = TEXT.splitlines()

        def judge(changed):
            bench = Bench(example_book())
            for at, line in enumerate(changed):
                word, *items = line.split(" ")
                one = replay_deed(word, items)
                try:
                    bench.do(one)
                except (Refused, Unknown, Impossible):
                    return at
            return bench

        for at in range(len(lines)):
            for changed in (lines[:at] + lines[at + 1:], lines[:at + 1] + lines[at:], [*lines[:at], *lines[at:at + 2][::-1], *lines[at + 2:]]):
                text = "".join([f"{line}\n" for line in changed])
                found = judge(changed)
                if isinstance(found, Bench):
                    self.assertEqual(replay(example_book(), text), found)
                else:
                    self.assertEqual(self.fault(text), (found, "refused"))

    def test_form(self):
        for line in ["", " ", "x", "undo", "Settle", "settle ", " settle", "settle main", "pot", "pot ", "pot Side", "pot side top", "pot toolong",
                     "pour main 1 1", "pour main 1 1 1 1", "pour main", "pour", "pour main 1 1 2/4", "pour main 1  1 1", "pour Main 1 1 1",
                     "pour main 1 1 1/1", "pour main 01 1 1", "pour main 1 1 x", "pour 1 1 1", "take main 1 1", "gate water main", "gate water main side x",
                     "gate water main 1", "gate Water main side", "wall water main", "wall water main side 1", "door heat main", "door heat main x",
                     "door heat main 1 1", "door heat main 2/4", "door heat 1 1", "shut heat", "shut heat main 1", "shut heat Main", "valve water main side",
                     "valve water main side 1 1", "valve water main side x", "valve water main 1", "close water main", "close water main side 1",
                     "skim main ice", "skim main ice x", "skim main ice 1/2 1", "skim main Ice 1", "skim main 1", "pots side", "pot\tside", "pour main 1 1 -0",
                     "pour main " + "1" * 1001 + " 0 0", "begin", "skimmed main 1"]:
            self.check("form", "pour main 1 0 0", line)
            self.check("form", line)

    def test_refused(self):
        for line in ["pot main", "pour side 1 1 1", "take side 1 1 1", "gate water main main", "gate fog main main", "gate water main side",
                     "wall water main main", "wall water main side", "door fog main 1", "door heat side 1", "shut heat main", "shut fog main",
                     "valve water main main 1", "valve water main side 1", "valve water main main -1", "close water main side", "skim side ice 1/2",
                     "skim main fog 1/2", "skim main ice 2", "skim main ice -1/2", "skim main heat 1"]:
            self.check("refused", line)
        self.check("refused", "take main 1 0 0", "settle")
        self.check("refused", "take main 1 0 0", "skim main ice 1/2")
        self.check("refused", "pot a", "valve water a main -1/2")
        self.check("refused", "pot a", "door heat a 1", "door heat main 2", "gate heat a main")
        self.check("refused", "pot a", "pot b", "pot c", "pot d")

    def test_form_goes_ahead(self):
        self.check("form", "door fog main 2/4")
        self.check("form", "skim side ice x")
        self.assertEqual(self.fault("pot main\npot x"), (0, "refused"))
        self.assertEqual(self.fault("pot main"), (0, "form"))

    def test_books_with_other_wares(self):
        book = Book(["a"], Kind("x", (1,)))
        bench = replay(book, "pour main 3\nskim main x 1/3\n")
        self.assertEqual(bench.skimmed("main").parts, row(1))
        self.assertEqual(self.fault("pour main 3 1\n", book), (0, "form"))
        self.assertEqual(self.fault("pour main\n", book), (0, "form"))


def replay_deed(word, items):
    """The deed of a line that is right."""
    if word in ("pour", "take"):
        return (word, items[0], row(*items[1:]))
    return (word, *[pair(item) if item[0] in "-0123456789" else item for item in items])
