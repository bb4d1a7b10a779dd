import unittest

from shutopen.books import Book
from shutopen.ends import is_unfillable
from shutopen.errors import InvalidText
from shutopen.rests import rest_of
from shutopen.vessels import Vessel
from tests.helpers import EXAMPLE


class TestExamples(unittest.TestCase):
    """The examples at the end of the document, as they stand there."""

    def test_rest(self):
        book = Book.read(EXAMPLE)
        vessel = Vessel(book, [('shut', (4, 1)), ('shut', (1, 1)), ('open', (5, 2))])
        rest = rest_of(vessel)
        self.assertEqual([rest.fill.parts, rest.row, rest.burden, str(vessel)],
                         [((1, 1), (0, 1), (0, 1), (1, 1), (0, 1)), ((0, 1), (-2, 1), (5, 2)), (-2, 1),
                          'water shut 4, salt shut 1, heat open 5/2'])

    def test_unfillable(self):
        book = Book.read(EXAMPLE)
        vessel = Vessel(book, [('shut', (4, 1)), ('shut', (1, 1)), ('shut', (49, 1))])
        self.assertEqual([is_unfillable(vessel, ((-12, 1), (0, 1), (1, 1))), is_unfillable(vessel, ((0, 1), (0, 1), (1, 1)))],
                         [True, False])

    def test_text(self):
        with self.assertRaises(InvalidText) as caught:
            Book.read('wares water\n')
        self.assertEqual((caught.exception.line, caught.exception.why), (1, 'missing'))
