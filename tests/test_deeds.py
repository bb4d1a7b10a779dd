import unittest

from shutopen.deeds import is_deed, journal_text
from tests.helpers import any_values, row

SIZES = {"pot": 2, "pour": 3, "take": 3, "settle": 1, "gate": 4, "wall": 4, "door": 4, "shut": 3, "valve": 5, "close": 4, "skim": 4}

DEEDS = [(("pot", "side"), "pot side"), (("pour", "main", row(4, 1, 0)), "pour main 4 1 0"), (("take", "main", row("-1/2", "10/3", 0)), "take main -1/2 10/3 0"),
         (("settle",), "settle"), (("gate", "water", "main", "side"), "gate water main side"), (("wall", "water", "main", "side"), "wall water main side"),
         (("door", "heat", "main", (5, 2)), "door heat main 5/2"), (("shut", "heat", "main"), "shut heat main"),
         (("valve", "salt", "main", "side", (0, 1)), "valve salt main side 0"), (("close", "salt", "main", "side"), "close salt main side"),
         (("skim", "main", "ice", (1, 2)), "skim main ice 1/2")]


class TestIsDeed(unittest.TestCase):
    def test_words_and_sizes(self):
        for word, size in SIZES.items():
            for many in range(1, 8):
                for item in (None, "a", (1, 2), [], {}, True):
                    self.assertIs(is_deed((word, *[item] * (many - 1))), many == size, word)
            self.assertIs(is_deed([word, *[None] * (size - 1)]), False)
            self.assertIs(is_deed(value=(word, *any_values()[:size - 1])), True)
        for deed, _ in DEEDS:
            self.assertIs(is_deed(deed), True)

    def test_any_value(self):
        for value in any_values():
            self.assertIs(is_deed(value), False)
            for size in range(1, 6):
                self.assertIs(is_deed((value, *[value] * (size - 1))), False)
        for word in ("Pot", "pots", "undo", "", "settle ", "open", "begin"):
            for size in range(1, 6):
                self.assertIs(is_deed((word, *["a"] * (size - 1))), False)
        self.assertIs(is_deed("settle"), False)


class TestJournalText(unittest.TestCase):
    def test_each_deed(self):
        for deed, line in DEEDS:
            self.assertEqual(journal_text([deed]), f"{line}\n")
        self.assertEqual(journal_text(deeds=[deed for deed, _ in DEEDS]), "".join([f"{line}\n" for _, line in DEEDS]))
        self.assertEqual(journal_text(tuple([deed for deed, _ in DEEDS[:2]])), "pot side\npour main 4 1 0\n")
        self.assertEqual(journal_text([]), "")

    def test_rows_of_one_and_two_items(self):
        self.assertEqual(journal_text([("pour", "main", row(3)), ("take", "main", row("1/2", 2)), ("pour", "main", row(2, 1))]),
                         "pour main 3\ntake main 1/2 2\npour main 2 1\n")

    def test_long_numbers(self):
        self.assertEqual(journal_text([("pour", "main", ((-10 ** 5000, 3),))]), "pour main -1{}/3\n".format("0" * 5000))
