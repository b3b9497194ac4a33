"""The error classes: bases, parameters, attributes and codes."""

import inspect
import unittest

from lostland import errors
from tests.support import ANY_VALUES, Case

MAP_ERRORS = {
    "InvalidFraction": ["value"], "ZeroDivisor": [], "InvalidSpot": ["value"], "Singular": [],
    "InLine": [], "InvalidName": ["value"], "InvalidKind": ["value"], "InvalidReading": ["at"],
    "InvalidSheet": ["at"], "InvalidMark": ["at"], "DuplicateName": ["name"],
    "TooMany": ["most"], "InvalidText": ["line", "why"], "InUse": ["name"],
    "InvalidPoint": ["value"], "InvalidClaim": ["at", "why"], "InvalidSum": [],
    "InvalidLand": [], "NotOfKind": ["name"], "Disagrees": ["name", "mark"], "OtherRoom": [],
    "Crushed": ["name"], "NotFollowing": [], "NoLand": ["name"], "Unled": ["value"],
    "NotNext": [], "NotOne": ["one", "other"], "NoArea": [], "RowStands": ["key"],
    "Stands": [], "InvalidNumber": ["value"], "Uncut": ["mark"], "InvalidDeed": ["at"],
    "NoDraft": [],
}
MISSING = {
    "UnknownSheet": ["name"], "UnknownMark": ["name"], "UnknownReading": ["name", "mark"],
    "UnknownRow": ["key"], "UnknownKey": ["key"], "UnknownClaim": ["at"],
}
ALL = {**MAP_ERRORS, **MISSING, "NothingLeft": []}


class TestErrors(Case):
    def test_each_class_is_defined_there(self):
        for name in [*ALL, "MapError", "Missing"]:
            self.assertEqual(getattr(errors, name).__module__, "lostland.errors")

    def test_bases_are_direct_and_the_only_ones(self):
        self.assertEqual(errors.MapError.__bases__, (ValueError,))
        self.assertEqual(errors.Missing.__bases__, (LookupError,))
        self.assertEqual(errors.NothingLeft.__bases__, (IndexError,))
        for name in MAP_ERRORS:
            self.assertEqual(getattr(errors, name).__bases__, (errors.MapError,))
        for name in MISSING:
            self.assertEqual(getattr(errors, name).__bases__, (errors.Missing,))

    def test_parameters_have_their_names_and_no_defaults(self):
        for name, told in ALL.items():
            parameters = inspect.signature(getattr(errors, name)).parameters.values()
            self.assertEqual([one.name for one in parameters], told, name)
            for one in parameters:
                self.assertIs(one.default, inspect.Parameter.empty)
                self.assertIs(one.kind, inspect.Parameter.POSITIONAL_OR_KEYWORD)

    def test_attributes_are_the_very_values_by_position_and_by_name(self):
        for name, told in ALL.items():
            for value in ANY_VALUES:
                given = [[value, at] for at in range(len(told))]
                one = getattr(errors, name)(*given)
                other = getattr(errors, name)(**dict(zip(told, given)))
                for error in (one, other):
                    for at, attribute in enumerate(told):
                        self.assertIs(getattr(error, attribute), given[at])

    def test_code_is_the_name_of_the_class(self):
        for name, told in ALL.items():
            self.assertEqual(getattr(errors, name)(*told).code, name)

    def test_the_two_bases_have_no_code(self):
        self.assertFalse(hasattr(errors.MapError(), "code"))
        self.assertFalse(hasattr(errors.Missing(), "code"))


if __name__ == "__main__":
    unittest.main()
