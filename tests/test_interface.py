"""The names of the interface: in which file each stands, with which arguments, and the methods of each class."""

import importlib
import inspect
import unittest

FUNCTIONS = {
    "words": {"is_name": "(value)", "is_number": "(value)", "is_fraction": "(value)", "is_row": "(value, many)",
              "is_mixture": "(value, many)"},
    "exact": {"fraction": "(n, d=1)", "plus": "(one, other)", "minus": "(one, other)", "times": "(one, other)",
              "over": "(one, other)", "sign": "(value)", "compared": "(one, other)", "product": "(one, other)",
              "scaled": "(row, value)", "added": "(one, other)", "whole_row": "(row)", "fraction_text": "(value)",
              "read_fraction": "(text)"},
    "tables": {"reduced": "(rows)", "rank": "(rows)", "independent": "(rows)", "null_rows": "(rows, width)",
               "solution": "(rows, goals, width)"},
    "pivots": {"solve": "(columns, goals, costs)", "solve_in_order": "(columns, goals, costs)", "met": "(rows, limits, width)"},
    "polygons": {"cut": "(corners, a, b, limit)", "has_point": "(corners, point)", "doubled_area": "(corners)"},
    "books": {"wide_book": "(wares, kinds)"},
    "lacks": {"lacks": "(book, row)", "touched": "(book, row)", "is_borne": "(book, value)", "suits": "(vessel, value)",
              "touches": "(book, row, fill)"},
    "ends": {"is_rest": "(vessel, fill, row)", "is_unfillable": "(vessel, row)", "is_runaway": "(vessel, fill, mixture)",
             "is_hollow_by": "(book, mixture)"},
    "rests": {"end_of": "(vessel)", "rest_of": "(vessel)", "hollow_paper": "(book)"},
    "reactions": {"is_change": "(vessel, value)", "reaction_cost": "(vessel, reaction)", "is_least": "(vessel, reaction)",
                  "least_reactions": "(vessel)"},
    "splitting": {"split": "(vessel, change)"},
    "ways": {"way": "(vessel, fill)"},
    "downhill": {"downhill": "(vessel, fill)", "apart": "(book, lot)"},
    "lots": {"together": "(book, lot)", "rank_of": "(book, lot)", "freedom": "(book, lot)", "lots": "(book, *, size=None)"},
    "corners": {"corners": "(book)", "free_rows": "(book, lot)", "swing": "(book, row, direction)"},
    "sure": {"maybe": "(vessel)", "freedoms": "(vessel)", "other_rest": "(vessel)", "other_row": "(vessel, row)"},
    "extents": {"extent": "(vessel, name)", "held": "(vessel, ware)"},
    "rates": {"first_cost": "(vessel, direction)", "first_gain": "(vessel, direction)", "small_step": "(vessel, direction)"},
    "stretches": {"stretches": "(vessel, *, ware, window)", "cooled": "(vessel, *, ware, window)"},
    "bases": {"is_base": "(vessel, value)", "base_field": "(vessel, base, *, ware, other, window)"},
    "needless": {"needless": "(book, name)", "trimmed": "(book)", "shows": "(book, name)"},
    "bodies": {"key": "(book)", "alike": "(one, other)", "parting": "(one, other)", "joined": "(one, other)"},
    "verdicts": {"verdict": "(looks, vessel, fill)"},
    "worktexts": {"works_text": "(works)", "read_works": "(text)"},
    "workvessels": {"works_vessel": "(works)", "put_together": "(works, fills, flows)", "taken_apart": "(works, fill)",
                    "pot_rows": "(works, row)"},
    "workrests": {"works_rest": "(works)", "is_works_rest": "(works, fills, flows, rows)", "settled": "(works)",
                  "agreeing": "(works, ware, one, other)"},
    "printing": {"rest_lines": "(rest)"},
    "deeds": {"is_deed": "(value)", "journal_text": "(deeds)"},
    "journals": {"replay": "(book, text)"},
    "papers": {"holds": "(value)", "papers_of": "(vessel)", "book_papers": "(book)"}}

CLASSES = {
    "kinds": {"Kind": ("(name, numbers, *, cost=(0, 1))", {"as_row": "(self)", "text": "(self)"}, ["__eq__", "__repr__"])},
    "books": {"Book": ("(wares, *kinds)", {
        "kind": "(self, name)", "place": "(self, name)", "ware_index": "(self, ware)", "with_kind": "(self, kind)",
        "without": "(self, name)", "part": "(self, lot)", "moved": "(self, row)", "ordered": "(self, lot)", "text": "(self)",
        "read": "(text)"}, ["__str__", "__contains__", "__eq__", "__len__", "__repr__"])},
    "fills": {"Fill": ("(book, parts)", {"of": "(book, amounts)"},
                       ["__add__", "__sub__", "__mul__", "__getitem__", "__contains__", "__eq__", "__len__", "__bool__",
                        "__repr__"])},
    "vessels": {"Vessel": ("(book, states)", {
        "shut_wares": "(self)", "open_wares": "(self)", "state": "(self, ware)", "with_state": "(self, ware, state)",
        "with_amounts": "(self, row)", "with_book": "(self, book)", "net_costs": "(self)", "fits": "(self, fill)",
        "burden_of": "(self, fill)"}, ["__eq__", "__str__", "__repr__"])},
    "rests": {"Rest": (None, {}, ["__repr__"])},
    "reactions": {"Reaction": ("(book, parts)", {
        "as_row": "(self)", "used": "(self)", "made": "(self)", "contents_of": "(self)", "uses_only": "(self, fill)"},
        ["__neg__", "__eq__", "__str__", "__len__", "__repr__"])},
    "ways": {"Way": (None, {"stops": "(self, *, order=None)"}, ["__len__", "__repr__"])},
    "extents": {"Extent": (None, {}, ["__repr__"])},
    "charts": {
        "Chart": ("(vessel)", {"cones": "(self)", "great": "(self)", "cone_of": "(self, point)", "neighbours": "(self, cone)"},
                  ["__len__", "__repr__"]),
        "Cone": (None, {"holds": "(self, point)", "inside": "(self, point)", "mixed": "(self, point)"},
                 ["__and__", "__eq__", "__repr__"])},
    "stretches": {"PriceStretch": (None, {}, ["__repr__"])},
    "fields": {
        "Fields": ("(vessel, *, ware, other, window)", {"fields": "(self)", "field_at": "(self, point)", "borders": "(self)"},
                   ["__len__", "__repr__"]),
        "Field": (None, {}, ["__contains__", "__repr__"])},
    "looks": {"Looks": ("(book, *, looks=(), sayings=())", {
        "lines": "(self)", "with_look": "(self, look)", "with_saying": "(self, saying)", "fit": "(self)", "fits_with": "(self, costs)",
        "sure": "(self, weights, least)", "book_with": "(self, costs)"}, ["__len__", "__bool__", "__repr__"])},
    "works": {"Works": ("(book, pots, *, gates=(), doors=(), valves=())", {
        "pot_names": "(self)", "amounts_of": "(self, pot)", "basin": "(self, ware, pot)", "price_at": "(self, ware, pot)",
        "with_pot": "(self, name, row)", "poured": "(self, pot, row)", "taken": "(self, pot, row)", "with_gate": "(self, ware, one, other)",
        "without_gate": "(self, ware, one, other)", "with_door": "(self, ware, pot, price)", "with_shut": "(self, ware, pot)",
        "with_valve": "(self, ware, source, goal, toll)", "without_valve": "(self, ware, source, goal)"},
        ["__eq__", "__len__", "__repr__"])},
    "workrests": {"WorksRest": (None, {}, ["__repr__"])},
    "owners": {"Owners": ("(vessel, *owners)", {
        "vessel_of": "(self, names)", "burden_of": "(self, names)", "copies_vessel": "(self, copies)", "price_shares": "(self)",
        "is_price_share": "(self, shares)", "undone": "(self, shares)", "undone_by_copies": "(self, shares)", "span": "(self, name)",
        "idle": "(self)"}, ["__len__", "__repr__"])},
    "bench": {"Bench": ("(book)", {
        "do": "(self, *deeds)", "undo": "(self)", "redo": "(self)", "history": "(self)", "begin": "(self)", "keep": "(self)",
        "drop": "(self)", "journal": "(self)", "skimmed": "(self, pot)", "rest": "(self)", "whole": "(self)", "loss": "(self)",
        "fair": "(self)", "text": "(self)", "tried": "(self, *deeds)", "say": "(self, line)", "log": "(self)", "twin": "(self)"},
        ["__call__", "__eq__", "__len__", "__bool__", "__repr__", "present", "drafting", "busy"])}}

GENERATORS = [("reactions", "least_reactions"), ("lots", "lots"), ("printing", "rest_lines")]

STATIC = [("books", "Book", "read"), ("fills", "Fill", "of")]


class TestInterface(unittest.TestCase):
    def test_functions(self):
        for file, table in FUNCTIONS.items():
            module = importlib.import_module(f"shutopen.{file}")
            for name, arguments in table.items():
                found = getattr(module, name)
                self.assertEqual((found.__module__, str(inspect.signature(found))), (f"shutopen.{file}", arguments), name)

    def test_classes(self):
        for file, table in CLASSES.items():
            module = importlib.import_module(f"shutopen.{file}")
            for name, (arguments, methods, more) in table.items():
                found = getattr(module, name)
                self.assertEqual(found.__module__, f"shutopen.{file}")
                if arguments is not None:
                    self.assertEqual(str(inspect.signature(found)), arguments)
                for method, its in methods.items():
                    self.assertIn(method, vars(found))
                    self.assertEqual(str(inspect.signature(getattr(found, method))), its, method)
                for method in more:
                    self.assertIn(method, vars(found))

    def test_static_methods(self):
        for file, name, method in STATIC:
            found = getattr(importlib.import_module(f"shutopen.{file}"), name)
            self.assertIs(type(vars(found)[method]), staticmethod)

    def test_generators(self):
        for file, name in GENERATORS:
            self.assertTrue(inspect.isgeneratorfunction(getattr(importlib.import_module(f"shutopen.{file}"), name)))
