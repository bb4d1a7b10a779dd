import unittest

from shutopen.books import Book
from shutopen.errors import InvalidText
from shutopen.kinds import Kind
from tests.helpers import EXAMPLE, any_values


class TestBookTexts(unittest.TestCase):
    def wrong(self, text, line, why):
        with self.assertRaises(InvalidText) as caught:
            Book.read(text)
        self.assertEqual((caught.exception.line, caught.exception.why), (line, why), repr(text))

    def test_there_and_back(self):
        for book in [Book(["a"], Kind("a", (0,))),
                     Book(["kind", "cost"], Kind("wares", (-99, 99), cost=(-9999, 1)), Kind("cost", (5, -5), cost=(1, 99))),
                     Book(list("abcdef"), *[Kind(letter, (1, 2, 3, 4, 5, -6), cost=(7, 3)) for letter in "abcdefghij"])]:
            self.assertEqual(Book.read(book.text()), book)
            self.assertEqual(Book.read(book.text()).text(), book.text())
        self.assertEqual(Book.read(EXAMPLE).text(), EXAMPLE)

    def test_values_that_are_no_strings(self):
        for value in any_values() + [EXAMPLE.encode(), [EXAMPLE], EXAMPLE.split("\n")]:
            if not isinstance(value, str):
                self.wrong(value, 0, "form")

    def test_missing(self):
        self.wrong("", 0, "missing")
        self.wrong("wares a\n", 1, "missing")
        self.wrong("wares a b c d e f\n", 1, "missing")

    def test_form_of_the_first_line(self):
        for line in ["", "wares", "wares ", "wares  a", " wares a", "wares a ", "wares a  b", "Wares a", "ware a", "waress a",
                     "wares A", "wares abcdefg", "wares a1", "wares a.b", "wares 1", "wares a,b", "wares\ta", "kind a 1 cost 0",
                     "a", "a b", "wares a b c d e f G", "wares a a A"]:
            self.wrong(line + "\n", 0, "form")
            self.wrong(line + "\nkind a 1 cost 0\n", 0, "form")

    def test_many_and_double_in_the_first_line(self):
        self.wrong("wares a b c d e f g\n", 0, "many")
        self.wrong("wares a b c d e f f\n", 0, "many")
        self.wrong("wares a b a\n", 0, "double")
        self.wrong("wares a b b\nkind\n", 0, "double")
        self.wrong("wares a a\nkind a 1 1 cost 0\n", 0, "double")

    def test_form_of_the_line_of_a_kind(self):
        for line in ["", "kind", "kind a", "kind a 1", "kind a 1 cost", "kind a 1 cost 0", "kind a 1 2 3 cost 0", "kind a 1 2 cost",
                     "kind a 1 2 0", "kind a 1 2 cost 0 ", " kind a 1 2 cost 0", "kind  a 1 2 cost 0", "kind a  1 2 cost 0",
                     "kind a 1 2  cost 0", "kind a 1 2 cost  0", "Kind a 1 2 cost 0", "kin a 1 2 cost 0", "kind a 1 2 Cost 0",
                     "kind a 1 2 costs 0", "kind A 1 2 cost 0", "kind abcdefg 1 2 cost 0", "kind a1 1 2 cost 0",
                     "kind a.b 1 2 cost 0", "kind 1 2 cost 0", "kind a 100 2 cost 0", "kind a 1 -100 cost 0",
                     "kind a 01 2 cost 0", "kind a 1 -0 cost 0", "kind a +1 2 cost 0", "kind a 1 2/1 cost 0", "kind a 1 1/2 cost 0",
                     "kind a 1 x cost 0", "kind a 1 2 cost 10000", "kind a 1 2 cost -10000", "kind a 1 2 cost 1/100",
                     "kind a 1 2 cost 2/4", "kind a 1 2 cost 3/1", "kind a 1 2 cost x", "kind a 1 2 cost -0",
                     "kind a 1 2 cost 01", "kind a 1 2 cost 1/-2", "kind a 1 2 cost 0 0", "wares a b", "kind a 1 2\tcost 0",
                     "kind a 1 2 cost " + "1" * 1001, "kind a 1 " + "2" * 1001 + " cost 0"]:
            self.wrong("wares a b\n" + line + "\n", 1, "form")
            self.wrong("wares a b\nkind z 0 0 cost 0\n" + line + "\nkind z 0 0 cost 0\n", 2, "form")

    def test_limits_that_are_met(self):
        text = "wares a b\nkind a -99 99 cost -9999/98\nkind abcdef 0 0 cost 9999\nkind c 1 1 cost 9998/99\n"
        self.assertEqual(Book.read(text).text(), text)

    def test_the_eleventh_kind(self):
        lines = ["wares a"] + [f"kind {letter} 1 cost 0" for letter in "abcdefghij"]
        text = "\n".join(lines) + "\n"
        self.assertEqual(len(Book.read(text)), 10)
        self.wrong(text + "kind k 1 cost 0\n", 11, "many")
        self.wrong(text + "kind a 1 cost 0\n", 11, "many")
        self.wrong(text + "kind k 1 cost x\n", 11, "form")
        self.wrong(text + "kind k 1 cost 0", 11, "form")

    def test_double_kinds(self):
        self.wrong("wares a\nkind x 1 cost 0\nkind y 1 cost 0\nkind x 1 cost 0\n", 3, "double")
        self.wrong("wares a\nkind x 1 cost 0\nkind x 2 cost 3\nnonsense\n", 2, "double")
        self.wrong("wares a\nkind x 1 cost 0\nkind x 2 3 cost 3\n", 2, "form")

    def test_text_behind_the_last_line_feed(self):
        self.wrong("wares a", 0, "form")
        self.wrong(" ", 0, "form")
        self.wrong("wares a\nkind x 1 cost 0", 1, "form")
        self.wrong("wares a\nkind x 1 cost 0\n ", 2, "form")
        self.wrong("wares a\nkind x 1 cost 0\nkind y 1 cost 0", 2, "form")
        self.wrong("wares a\nkind x 1 cost 0\nkind x 1 cost 0", 2, "form")
        self.wrong("wares a a", 0, "form")

    def test_empty_lines(self):
        self.wrong("\n", 0, "form")
        self.wrong("\nwares a\nkind x 1 cost 0\n", 0, "form")
        self.wrong("wares a\n\nkind x 1 cost 0\n", 1, "form")
        self.wrong("wares a\nkind x 1 cost 0\n\n", 2, "form")

    def test_the_first_wrong_line_counts(self):
        self.wrong("wares a a\nnonsense", 0, "double")
        self.wrong("wares a\nnonsense\nkind x 1 cost 0\nkind x 1 cost 0\n", 1, "form")
        self.wrong("wares a\nkind x 1 cost 0\nkind x 1 cost 0\nnonsense", 2, "double")
