"""The names of the interface: in which file each stands, with which arguments, and the methods of each class."""

import importlib
import inspect
import unittest

FUNCTIONS = {
    "words": {"is_name": "(value)", "is_number": "(value)", "is_fraction": "(value)", "is_row": "(value, many)",
              "is_mixture": "(value, many)"},
    "exact": {"fraction": "(n, d=1)", "plus": "(one, other)", "minus": "(one, other)", "times": "(one, other)",
              "over": "(one, other)", "sign": "(value)", "compared": "(one, other)", "product": "(one, other)",
              "scaled": "(row, value)", "added": "(one, other)", "whole_row": "(row)", "fraction_text": "(value)",
              "read_fraction": "(text)"},
    "tables": {"reduced": "(rows)", "rank": "(rows)", "independent": "(rows)", "null_rows": "(rows, width)",
               "solution": "(rows, goals, width)"},
    "pivots": {"solve": "(columns, goals, costs)", "solve_in_order": "(columns, goals, costs)", "met": "(rows, limits, width)"},
    "polygons": {"cut": "(corners, a, b, limit)", "has_point": "(corners, point)", "doubled_area": "(corners)"},
    "books": {"wide_book": "(wares, kinds)"},
    "lacks": {"lacks": "(book, row)", "touched": "(book, row)", "is_borne": "(book, value)", "suits": "(vessel, value)",
              "touches": "(book, row, fill)"},
    "ends": {"is_rest": "(vessel, fill, row)", "is_unfillable": "(vessel, row)", "is_runaway": "(vessel, fill, mixture)",
             "is_hollow_by": "(book, mixture)"},
    "rests": {"end_of": "(vessel)", "rest_of": "(vessel)", "hollow_paper": "(book)"},
    "reactions": {"is_change": "(vessel, value)", "reaction_cost": "(vessel, reaction)", "is_least": "(vessel, reaction)",
                  "least_reactions": "(vessel)"},
    "splitting": {"split": "(vessel, change)"},
    "ways": {"way": "(vessel, fill)"},
    "downhill": {"downhill": "(vessel, fill)", "apart": "(book, lot)"},
    "lots": {"together": "(book, lot)", "rank_of": "(book, lot)", "freedom": "(book, lot)", "lots": "(book, *, size=None)"},
    "corners": {"corners": "(book)", "free_rows": "(book, lot)", "swing": "(book, row, direction)"},
    "sure": {"maybe": "(vessel)", "freedoms": "(vessel)", "other_rest": "(vessel)", "other_row": "(vessel, row)"},
    "extents": {"extent": "(vessel, name)", "held": "(vessel, ware)"},
    "rates": {"first_cost": "(vessel, direction)", "first_gain": "(vessel, direction)", "small_step": "(vessel, direction)"},
    "stretches": {"stretches": "(vessel, *, ware, window)", "cooled": "(vessel, *, ware, window)"},
    "bases": {"is_base": "(vessel, value)", "base_field": "(vessel, base, *, ware, other, window)"}}

CLASSES = {
    "kinds": {"Kind": ("(name, numbers, *, cost=(0, 1))", {"as_row": "(self)", "text": "(self)"}, ["__eq__", "__repr__"])},
    "books": {"Book": ("(wares, *kinds)", {
        "kind": "(self, name)", "place": "(self, name)", "ware_index": "(self, ware)", "with_kind": "(self, kind)",
        "without": "(self, name)", "part": "(self, lot)", "moved": "(self, row)", "ordered": "(self, lot)", "text": "(self)",
        "read": "(text)"}, ["__str__", "__contains__", "__eq__", "__len__", "__repr__"])},
    "fills": {"Fill": ("(book, parts)", {"of": "(book, amounts)"},
                       ["__add__", "__sub__", "__mul__", "__getitem__", "__contains__", "__eq__", "__len__", "__bool__",
                        "__repr__"])},
    "vessels": {"Vessel": ("(book, states)", {
        "shut_wares": "(self)", "open_wares": "(self)", "state": "(self, ware)", "with_state": "(self, ware, state)",
        "with_amounts": "(self, row)", "with_book": "(self, book)", "net_costs": "(self)", "fits": "(self, fill)",
        "burden_of": "(self, fill)"}, ["__eq__", "__str__", "__repr__"])},
    "rests": {"Rest": (None, {}, ["__repr__"])},
    "reactions": {"Reaction": ("(book, parts)", {
        "as_row": "(self)", "used": "(self)", "made": "(self)", "contents_of": "(self)", "uses_only": "(self, fill)"},
        ["__neg__", "__eq__", "__str__", "__len__", "__repr__"])},
    "ways": {"Way": (None, {"stops": "(self, *, order=None)"}, ["__len__", "__repr__"])},
    "extents": {"Extent": (None, {}, ["__repr__"])},
    "charts": {
        "Chart": ("(vessel)", {"cones": "(self)", "great": "(self)", "cone_of": "(self, point)", "neighbours": "(self, cone)"},
                  ["__len__", "__repr__"]),
        "Cone": (None, {"holds": "(self, point)", "inside": "(self, point)", "mixed": "(self, point)"},
                 ["__and__", "__eq__", "__repr__"])},
    "stretches": {"PriceStretch": (None, {}, ["__repr__"])},
    "fields": {
        "Fields": ("(vessel, *, ware, other, window)", {"fields": "(self)", "field_at": "(self, point)", "borders": "(self)"},
                   ["__len__", "__repr__"]),
        "Field": (None, {}, ["__contains__", "__repr__"])}}

GENERATORS = [("reactions", "least_reactions"), ("lots", "lots")]

STATIC = [("books", "Book", "read"), ("fills", "Fill", "of")]


class TestInterface(unittest.TestCase):
    def test_functions(self):
        for file, table in FUNCTIONS.items():
            module = importlib.import_module(f"shutopen.{file}")
            for name, arguments in table.items():
                found = getattr(module, name)
                self.assertEqual((found.__module__, str(inspect.signature(found))), (f"shutopen.{file}", arguments), name)

    def test_classes(self):
        for file, table in CLASSES.items():
            module = importlib.import_module(f"shutopen.{file}")
            for name, (arguments, methods, more) in table.items():
                found = getattr(module, name)
                self.assertEqual(found.__module__, f"shutopen.{file}")
                if arguments is not None:
                    self.assertEqual(str(inspect.signature(found)), arguments)
                for method, its in methods.items():
                    self.assertIn(method, vars(found))
                    self.assertEqual(str(inspect.signature(getattr(found, method))), its, method)
                for method in more:
                    self.assertIn(method, vars(found))

    def test_static_methods(self):
        for file, name, method in STATIC:
            found = getattr(importlib.import_module(f"shutopen.{file}"), name)
            self.assertIs(type(vars(found)[method]), staticmethod)

    def test_generators(self):
        for file, name in GENERATORS:
            self.assertTrue(inspect.isgeneratorfunction(getattr(importlib.import_module(f"shutopen.{file}"), name)))
