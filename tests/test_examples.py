import unittest

from shutopen.bench import Bench
from shutopen.bodies import key
from shutopen.books import Book
from shutopen.corners import corners
from shutopen.downhill import apart
from shutopen.ends import is_unfillable
from shutopen.errors import InvalidText
from shutopen.kinds import Kind
from shutopen.lots import freedom, together
from shutopen.needless import needless
from shutopen.owners import Owners
from shutopen.rates import first_cost, first_gain
from shutopen.reactions import least_reactions
from shutopen.rests import rest_of
from shutopen.stretches import stretches
from shutopen.vessels import Vessel
from shutopen.workrests import works_rest
from shutopen.works import Works
from tests.helpers import EXAMPLE


class TestExamples(unittest.TestCase):
    """The examples at the end of the document, as they stand there."""

    def test_rest(self):
        book = Book.read(EXAMPLE)
        vessel = Vessel(book, [('shut', (4, 1)), ('shut', (1, 1)), ('open', (5, 2))])
        rest = rest_of(vessel)
        self.assertEqual([rest.fill.parts, rest.row, rest.burden, str(vessel)],
                         [((1, 1), (0, 1), (0, 1), (1, 1), (0, 1)), ((0, 1), (-2, 1), (5, 2)), (-2, 1),
                          'water shut 4, salt shut 1, heat open 5/2'])

    def test_unfillable(self):
        book = Book.read(EXAMPLE)
        vessel = Vessel(book, [('shut', (4, 1)), ('shut', (1, 1)), ('shut', (49, 1))])
        self.assertEqual([is_unfillable(vessel, ((-12, 1), (0, 1), (1, 1))), is_unfillable(vessel, ((0, 1), (0, 1), (1, 1)))],
                         [True, False])

    def test_least_reactions(self):
        book = Book.read(EXAMPLE)
        vessel = Vessel(book, [('shut', (4, 1)), ('shut', (1, 1)), ('open', (5, 2))])
        self.assertEqual([str(reaction) for reaction in least_reactions(vessel)],
                         ['1 ice to 1 water', '3 ice, 1 salt to 1 brine', '1 ice to 1 steam', '3 water, 1 salt to 1 brine',
                          '1 water to 1 steam', '1 salt, 3 steam to 1 brine'])

    def test_together_and_apart(self):
        book = Book.read(EXAMPLE)
        self.assertEqual([str(apart(book, ['water', 'salt'])), together(book, ['water', 'salt']), freedom(book, ['ice', 'salt', 'brine']),
                          freedom(book, ['ice', 'brine']), together(book, ['ice', 'salt', 'brine'])[1]],
                         ['4 water, 1 salt to 1 ice, 1 brine', None, 0, 1, ('ice', 'salt', 'brine')])

    def test_rates(self):
        book = Book.read(EXAMPLE)
        vessel = Vessel(book, [('shut', (4, 1)), ('shut', (1, 1)), ('shut', (8, 1))])
        heat = ((0, 1), (0, 1), (1, 1))
        self.assertEqual([first_cost(vessel, heat)[:2], first_gain(vessel, heat)[:2]], [('rate', (3, 1)), ('rate', (9, 4))])

    def test_stretches(self):
        book = Book.read(EXAMPLE)
        vessel = Vessel(book, [('shut', (4, 1)), ('shut', (1, 1)), ('open', (5, 2))])
        self.assertEqual([(part.low, part.high, part.amount) for part in stretches(vessel, ware='heat', window=((0, 1), (5, 1)))],
                         [((0, 1), (9, 4), (0, 1)), ((9, 4), (3, 1), (8, 1)), ((3, 1), (4, 1), (10, 1)), ((4, 1), (30, 7), (20, 1)),
                          ((30, 7), (5, 1), (48, 1))])

    def test_corners(self):
        book = Book(['stuff', 'heat', 'room'], Kind('solid', (1, 0, 2)), Kind('liquid', (1, 2, 1), cost=(6, 1)),
                    Kind('vapour', (1, 12, 20), cost=(34, 1)))
        self.assertEqual(corners(book), [(((1, 6), (71, 24), (-1, 12)), ('solid', 'liquid', 'vapour'))])

    def test_works(self):
        book = Book.read(EXAMPLE)
        pots = [('a', ((0, 1), (1, 1), (0, 1))), ('b', ((4, 1), (0, 1), (0, 1)))]
        doors = [('heat', 'a', (5, 2)), ('heat', 'b', (5, 2))]
        works = Works(book, pots, doors=doors, valves=[('water', 'b', 'a', (1, 4))])
        rest = works_rest(works)
        self.assertEqual([rest.flows, rest.burden, rest.fills[0].lot, rest.fills[1].lot], [((3, 1),), (-5, 4), ('brine',), ('ice',)])

    def test_owners(self):
        book = Book.read(EXAMPLE)
        vessel = Vessel(book, [('shut', (4, 1)), ('shut', (1, 1)), ('open', (5, 2))])
        owners = Owners(vessel, ('ada', ((4, 1), (0, 1), (0, 1))), ('ben', ((0, 1), (1, 1), (0, 1))))
        self.assertEqual([owners.total, owners.undone(((-1, 1), (-1, 1))), owners.is_price_share(((-1, 1), (-1, 1))),
                          owners.is_price_share(((0, 1), (-2, 1))), owners.span('ben')], [(-2, 1), None, False, True, ((-2, 1), (-2, 1))])

    def test_bench(self):
        book = Book.read(EXAMPLE)
        bench = Bench(book)
        done = bench.do(('pour', 'main', ((4, 1), (1, 1), (0, 1))), ('door', 'heat', 'main', (5, 2)))
        self.assertIsNone(done)
        done = bench.do(('skim', 'main', 'brine', (1, 2)))
        self.assertIsNone(done)
        self.assertEqual([bench('burden'), bench('amount main brine'), bench('skimmed main brine'), bench('poured main heat'), bench('loss'),
                          bench('what'), bench.history()], ['-1', '1/2', '1/2', '-4', '0', 'unknown', (2, 0)])

    def test_key_and_needless(self):
        book = Book(['water'], Kind('ice', (1,)), Kind('gem', (2,), cost=(3, 1)))
        self.assertEqual([key(book), needless(book, 'gem') is None, needless(book, 'ice')], [((), ((1, 0),)), False, None])

    def test_text(self):
        with self.assertRaises(InvalidText) as caught:
            Book.read('wares water\n')
        self.assertEqual((caught.exception.line, caught.exception.why), (1, 'missing'))
