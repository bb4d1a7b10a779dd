import unittest

from shutopen import errors
from tests.helpers import any_values

BASES = {"Refused": ValueError, "Unknown": LookupError, "Impossible": ArithmeticError, "NoStep": IndexError}

PARAMETERS = {
    "Refused": {
        "InvalidText": ("line", "why"), "InvalidName": ("name",), "InvalidNumbers": ("at",), "InvalidCost": (),
        "InvalidWares": ("at",), "InvalidKind": ("at",), "DuplicateName": ("name",), "TooMany": ("most",),
        "InvalidFill": ("at",), "Negative": ("name",), "InvalidState": ("at",), "InvalidRow": ("at",),
        "InvalidLot": ("at",), "InvalidFraction": (), "NotFilled": (), "InvalidReaction": (), "InvalidOrder": (),
        "NotBorne": ("name",), "NotBase": (), "NotOpen": ("ware",), "InvalidWindow": (), "DifferentWares": (),
        "InvalidPot": ("at",), "InvalidGate": ("at",), "InvalidDoor": ("at",), "InvalidValve": ("at",),
        "InvalidOwner": ("at",), "WrongTotal": ("ware",), "WrongSum": ("total",), "InvalidLook": ("at",),
        "InvalidSaying": ("at",), "InvalidDeed": ("at",), "InvalidShare": ()},
    "Unknown": {
        "UnknownKind": ("name",), "UnknownWare": ("name",), "UnknownPot": ("name",), "UnknownOwner": ("name",),
        "UnknownGate": ("ware",), "UnknownValve": ("ware",)},
    "Impossible": {
        "ByZero": (), "Unfillable": ("row",), "RunsAway": ("fill", "mixture"), "Hollow": ("mixture",),
        "Clash": ("weights",)},
    "NoStep": {"NothingLeft": (), "InDraft": (), "NoDraft": (), "OutsideWindow": ("point",)}}


def all_errors():
    return [(base, name, names) for base, table in PARAMETERS.items() for name, names in table.items()]


class TestErrors(unittest.TestCase):
    def test_bases(self):
        for base, own in BASES.items():
            found = getattr(errors, base)
            self.assertEqual(found.__bases__, (own,))
            self.assertEqual(found.__module__, "shutopen.errors")

    def test_each_error_stands_under_its_base_alone(self):
        for base, name, _ in all_errors():
            with self.subTest(name):
                found = getattr(errors, name)
                self.assertEqual(found.__name__, name)
                self.assertEqual(found.__module__, "shutopen.errors")
                self.assertEqual(found.__bases__, (getattr(errors, base),))

    def test_no_error_is_one_of_another_class(self):
        for base, name, names in all_errors():
            error = getattr(errors, name)(*range(len(names)))
            for other_base in BASES:
                self.assertEqual(isinstance(error, getattr(errors, other_base)), other_base == base, name)
            for _, other, _ in all_errors():
                self.assertEqual(isinstance(error, getattr(errors, other)), other == name, (name, other))

    def test_code_is_the_name_in_lowercase_letters(self):
        for _, name, names in all_errors():
            with self.subTest(name):
                self.assertEqual(getattr(errors, name)(*names).code, name.lower())
                self.assertEqual(getattr(errors, name)(**{word: 1 for word in names}).code, name.lower())
        self.assertEqual(errors.Unfillable(()).code, "unfillable")

    def test_attributes_by_place(self):
        for _, name, names in all_errors():
            with self.subTest(name):
                values = [object() for _ in names]
                error = getattr(errors, name)(*values)
                for word, value in zip(names, values):
                    self.assertIs(getattr(error, word), value)

    def test_attributes_by_name(self):
        for _, name, names in all_errors():
            with self.subTest(name):
                values = {word: object() for word in reversed(names)}
                error = getattr(errors, name)(**values)
                for word, value in values.items():
                    self.assertIs(getattr(error, word), value)

    def test_attributes_of_any_value(self):
        for value in any_values():
            for _, name, names in all_errors():
                error = getattr(errors, name)(*[value for _ in names])
                for word in names:
                    self.assertIs(getattr(error, word), value)

    def test_no_more_and_no_fewer_parameters(self):
        for _, name, names in all_errors():
            with self.subTest(name):
                with self.assertRaises(TypeError):
                    getattr(errors, name)(*names, 1)
                if names:
                    with self.assertRaises(TypeError):
                        getattr(errors, name)(*names[1:])

    def test_caught_by_itself_by_its_base_and_by_the_base_of_python(self):
        for base, name, names in all_errors():
            found = getattr(errors, name)
            for kind in (found, getattr(errors, base), BASES[base]):
                with self.assertRaises(kind) as caught:
                    raise found(*names)
                self.assertIs(type(caught.exception), found)

    def test_there_are_no_other_errors(self):
        found = {name for name in vars(errors) if isinstance(getattr(errors, name), type)}
        self.assertEqual(found, {name for _, name, _ in all_errors()} | set(BASES))
