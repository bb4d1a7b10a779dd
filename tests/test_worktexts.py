import random

from shutopen.books import Book
from shutopen.errors import InvalidText
from shutopen.works import Works
from shutopen.worktexts import read_works, works_text
from tests.helpers import EXAMPLE, Case, any_values, example_book, row
from tests.test_works import random_works

TEXT = EXAMPLE + ("pot a 0 1 0\n"
                  "pot b 4 -1/2 0\n"
                  "gate salt b a\n"
                  "gate salt b a\n"
                  "door heat a 5/2\n"
                  "door heat b 5/2\n"
                  "valve water b a 1/4\n"
                  "valve salt b a 0\n")
SMALL = "wares water salt\nkind ice 1 0 cost 0\n"


def text_of(*lines, book=SMALL):
    return book + "".join([f"{line}\n" for line in lines])


class TestThereAndBack(Case):
    def test_text(self):
        works = Works(example_book(), [("a", row(0, 1, 0)), ("b", row(4, "-1/2", 0))], gates=[("salt", "b", "a")] * 2,
                      doors=[("heat", "a", (5, 2)), ("heat", "b", (5, 2))],
                      valves=[("water", "b", "a", (1, 4)), ("salt", "b", "a", (0, 1))])
        self.assertEqual(works_text(works), TEXT)
        self.assertEqual(works_text(works=works), TEXT)
        self.assertEqual(read_works(TEXT), works)
        self.assertEqual(read_works(text=TEXT), works)

    def test_random_works(self):
        rnd = random.Random(191)
        for _ in range(100):
            works = random_works(rnd)
            text = works_text(works)
            self.assertEqual(read_works(text), works)
            self.assertEqual(works_text(read_works(text)), text)

    def test_parts_that_are_left_out(self):
        for lines in [["pot a 1 2"], ["pot a 1 2", "door salt a 1"], ["pot a 1 2", "pot b 0 0", "valve water a b 0"],
                      ["pot a 1 2", "pot b 0 0", "gate water a b", "valve water a b 0"], ["pot a 1 2", "pot b 0 0", "gate water a b"],
                      ["pot a 1 2", "pot b 0 0", "gate water a b", "door salt a 1"], ["pot a 1 2", "door salt a 1"]]:
            self.assertEqual(works_text(read_works(text_of(*lines))), text_of(*lines))

    def test_long_amounts(self):
        line = "pot a {} -1/{}".format("7" * 1000, "9" * 1000)
        self.assertEqual(works_text(read_works(text_of(line))), text_of(line))


class TestFaults(Case):
    def fault(self, text):
        caught = self.raised(InvalidText, read_works, text)
        return caught.line, caught.why

    def check(self, why, *lines, book=SMALL):
        """Holds why the last of some lines cannot stand."""
        at = book.count("\n") + len(lines) - 1
        self.assertEqual(self.fault(text_of(*lines, book=book)), (at, why), lines)
        # Worse lines behind it change nothing.
        self.assertEqual(self.fault(text_of(*lines, "", "wares", book=book)), (at, why), lines)

    def test_values_that_are_no_strings(self):
        for value in any_values():
            if not isinstance(value, str):
                self.assertEqual(self.fault(value), (0, "form"))

    def test_missing(self):
        self.assertEqual(self.fault(""), (0, "missing"))
        self.assertEqual(self.fault("wares a\n"), (1, "missing"))
        self.assertEqual(self.fault(SMALL), (2, "missing"))
        self.assertEqual(self.fault(EXAMPLE), (6, "missing"))

    def test_cut_texts(self):
        ends = [at + 1 for at, letter in enumerate(TEXT) if letter == "\n"]
        for cut in range(len(TEXT)):
            if cut not in ends:
                line = TEXT[:cut].count("\n")
                self.assertEqual(self.fault(TEXT[:cut]), (line, "form" if cut else "missing"), TEXT[:cut])
            elif cut < ends[6]:
                self.assertEqual(self.fault(TEXT[:cut]), (TEXT[:cut].count("\n"), "missing"))
            else:
                self.assertEqual(works_text(read_works(TEXT[:cut])), TEXT[:cut])

    def test_lines_left_out(self):
        lines = TEXT.splitlines()
        for at in range(len(lines)):
            text = "\n".join(lines[:at] + lines[at + 1:]) + "\n"
            if at == 0:
                self.assertEqual(self.fault(text), (0, "form"))
            elif lines[at].startswith("pot"):
                self.assertEqual(self.fault(text), (7, "unknown"))
            else:
                self.assertEqual(works_text(read_works(text)), text)

    def test_lines_doubled(self):
        lines = TEXT.splitlines()
        for at in range(len(lines)):
            text = "\n".join(lines[:at + 1] + lines[at:]) + "\n"
            if lines[at].split(" ")[0] in ("gate", "door"):
                self.assertEqual(works_text(read_works(text)), text)
            else:
                self.assertEqual(self.fault(text), (at + 1, "form" if at == 0 else "double"))

    def test_lines_exchanged(self):
        lines = TEXT.splitlines()
        words = [line.split(" ")[0] for line in lines]
        for at in range(len(lines) - 1):
            text = "\n".join([*lines[:at], lines[at + 1], lines[at], *lines[at + 2:]]) + "\n"
            if words[at] == words[at + 1]:
                self.assertEqual(works_text(read_works(text)), text)
            else:
                # The last pot comes behind a gate that names it; else the earlier line cannot follow the later one.
                expected = (at, "unknown") if words[at] == "pot" else (at if at == 0 else at + 1, "form")
                self.assertEqual(self.fault(text), expected, text)

    def test_first_lines(self):
        for line in ["pot a", "pot a 1", "kind ice 1 cost 0", "kind ice cost 0", "gate a b c", "door a b 1", "valve a b c 1", "", "Wares a", "wares", "wares "]:
            self.assertEqual(self.fault(f"{line}\n"), (0, "form"))
            self.assertEqual(self.fault(f"{line}\n{TEXT}"), (0, "form"))

    def test_order_of_the_parts(self):
        self.check("form", "gate water a b")
        self.check("form", "door water a 1")
        self.check("form", "valve water a b 1")
        self.check("form", "pot a 1 2", book="wares water salt\n")
        self.check("form", "pot a 1 2", "kind fog 0 0 cost 0")
        self.check("form", "pot a 1 2", "door water a 1", "pot b 1 2")
        self.check("form", "pot a 1 2", "door water a 1", "gate water a b")
        self.check("form", "pot a 1 2", "pot b 1 2", "valve water a b 1", "door water a 1")
        self.check("form", "pot a 1 2", "pot b 1 2", "valve water a b 1", "gate water a b")
        self.check("form", "pot a 1 2", "wares water salt")
        self.check("form", "wares water salt")
        self.check("form", "pot a 1 2", "skimmed a 1")

    def test_form_of_pots(self):
        for line in ["pot", "pot ", "pot a", "pot a 1", "pot a 1 2 3", "pot A 1 2", "pot  1 2", "pot a 1 2 ", "pot a  1 2", " pot a 1 2", "pot a 1 2/4",
                     "pot a 1 2/1", "pot a 01 2", "pot a +1 2", "pot a 1 --2", "pot a 1 x", "pot toolong 1 2", "pots a 1 2", "Pot a 1 2",
                     "pot a 1 0/3", "pot a 1 -0", "pot a 1 1/0", "pot a 1 1/-2", "pot a " + "1" * 1001 + " 0", ""]:
            self.check("form", line)

    def test_form_of_gates(self):
        for line in ["gate", "gate water", "gate water a", "gate water a b c", "gate water a a", "gate water A b", "gate Water a b", "gate water a b ",
                     "gate  water a b", "gate water a 1", "gate water a toolong", "gates water a b", "gate water  b"]:
            self.check("form", "pot a 1 2", "pot b 0 0", line)

    def test_form_of_doors(self):
        for line in ["door", "door water", "door water a", "door water a b", "door water a 1 1", "door water A 1", "door 1 a 1", "door water a 1/1",
                     "door water a 2/4", "door water a -", "door water a 1 ", "door water  1", "door  a 1"]:
            self.check("form", "pot a 1 2", "pot b 0 0", line)

    def test_form_of_valves(self):
        for line in ["valve", "valve water", "valve water a", "valve water a b", "valve water a b c", "valve water a b -1", "valve water a b -1/2",
                     "valve water a a 1", "valve water a b 1 1", "valve water A b 1", "valve water a b 2/4", "valve  a b 1", "valve water a b 1 "]:
            self.check("form", "pot a 1 2", "pot b 0 0", line)

    def test_faults_of_the_book(self):
        self.assertEqual(self.fault("wares a b c d e f g\n"), (0, "many"))
        self.assertEqual(self.fault("wares a b a\n"), (0, "double"))
        self.assertEqual(self.fault("wares a A\n"), (0, "form"))
        self.check("double", "kind ice 1 1 cost 1")
        self.check("form", "kind fog 1 1 1 cost 1")
        self.check("form", "kind fog 1 100 cost 1")
        kinds = [f"kind {letter} 0 0 cost 0" for letter in "abcdefghi"]
        self.check("many", *kinds, "kind ice 0 0 cost 0")
        self.check("form", *kinds, "kind ice 0 0")
        self.assertEqual(len(Book.read(text_of(*kinds))), 10)

    def test_too_many_pots(self):
        pots = [f"pot {letter} 0 0" for letter in "abcd"]
        self.assertEqual(len(read_works(text_of(*pots))), 4)
        self.check("many", *pots, "pot e 0 0")
        self.check("many", *pots, "pot a 0 0")
        self.check("form", *pots, "pot e 0")
        book = text_of(*[f"kind {letter} 0 0 cost 0" for letter in "abcdefgh"])
        self.assertEqual(len(read_works(text_of(*pots[:2], book=book))), 2)
        for many, most in [(5, 4), (7, 3), (9, 2)]:
            full = "wares water salt\n" + "".join([f"kind {letter} 0 0 cost 0\n" for letter in "abcdefghij"[:many + 1]])
            self.assertEqual(len(read_works(text_of(*pots[:most], book=full))), most)
        self.check("many", *pots[:2], "pot a 0 0", book=book)
        self.check("double", pots[0], "pot a 0 0", book=book)

    def test_too_many_gates_and_doors(self):
        pots = ["pot a 0 0", "pot b 0 0"]
        gates = ["gate water a b"] * 12
        self.assertEqual(len(read_works(text_of(*pots, *gates)).gates), 12)
        self.check("many", *pots, *gates, "gate water a b")
        self.check("many", *pots, *gates, "gate heat a c")
        self.check("form", *pots, *gates, "gate heat a a")
        doors = ["door water a 1"] * 12
        self.assertEqual(len(read_works(text_of(*pots, *gates, *doors)).doors), 12)
        self.check("many", *pots, *gates, *doors, "door water a 1")
        self.check("many", *pots, *doors, "door water a 2")
        self.check("many", *pots, *doors, "door heat c 2")
        self.check("form", *pots, *doors, "door heat c")

    def test_too_many_valves(self):
        pots = ["pot a 0 0", "pot b 0 0", "pot c 0 0"]
        book = text_of(*[f"kind {letter} 0 0 cost 0" for letter in "abcdef"])
        valves = ["valve water a b 0", "valve water b a 0", "valve water a c 0"]
        self.assertEqual(len(read_works(text_of(*pots, *valves, book=book)).valves), 3)
        self.check("many", *pots, *valves, "valve water b c 0", book=book)
        self.check("many", *pots, *valves, "valve fog y z 0", book=book)
        self.check("many", *pots, *valves, "valve water a b 0", book=book)
        self.check("form", *pots, *valves, "valve water a a 0", book=book)
        self.check("double", *pots, *valves[:2], "valve water a b 0", book=book)

    def test_unknown(self):
        pots = ["pot a 0 0", "pot b 0 0"]
        for line in ["gate heat a b", "gate water c b", "gate water a c", "door heat a 1", "door water c 1", "valve heat a b 1", "valve water c b 1",
                     "valve water a c 1", "gate a a b", "gate ice a b", "gate water ice b"]:
            self.check("unknown", *pots, line)

    def test_double(self):
        pots = ["pot a 0 0", "pot b 0 0", "pot c 0 0"]
        self.check("double", *pots, "pot b 1 1")
        self.check("double", *pots, "valve water a b 1", "valve water b a 1", "valve salt a b 1", "valve water a b 2")
        self.check("double", *pots, "door water a 1", "door water a 1", "door water a 1/2")
        self.check("double", *pots, "gate water b a", "gate water b c", "door water a 1", "door salt c 2", "door water c 2")
        text = text_of(*pots, "gate salt a c", "door water a 1", "door water c 2")
        self.assertEqual(works_text(read_works(text)), text)

    def test_kinds_and_wares_with_equal_names(self):
        text = "wares a b\nkind a 1 0 cost 0\npot a 1 1\npot b 1 1\ngate a a b\ndoor b b 1\nvalve a b a 1\n"
        self.assertEqual(works_text(read_works(text)), text)
