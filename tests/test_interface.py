"""The names, arguments and defaults of the interface, and where each one is defined."""

from importlib import import_module
import inspect
import unittest

MODULES = {
    "exact": {
        "is_fraction": "(value)", "is_spot": "(value)", "fraction": "(over, under=1)",
        "plus": "(one, other)", "minus": "(one, other)", "times": "(one, other)",
        "divided": "(one, other)", "negative": "(one)", "sign": "(one)",
        "is_less": "(one, other)", "fraction_text": "(one)", "read_fraction": "(text)",
        "direction": "(vector)", "vector_plus": "(one, other)", "vector_minus": "(one, other)",
        "vector_times": "(vector, weight)",
    },
    "tables": {
        "Table": {
            "__init__": "(self, a, b, c, d)", "det": property, "__call__": "(self, vector)",
            "__add__": None, "__sub__": None, "__neg__": None, "__mul__": None,
            "scaled": "(self, weight)", "inverse": "(self)", "entries": "(self)",
            "identity": staticmethod, "zero": staticmethod, "__eq__": None, "__repr__": None,
        },
    },
    "motions": {
        "Motion": {
            "__init__": "(self, table, move=((0, 1), (0, 1)))", "__call__": "(self, spot)",
            "__mul__": None, "inverse": "(self)", "identity": staticmethod, "__eq__": None,
        },
        "motion_of": "(spots, images)",
    },
    "flats": {
        "Flat": {
            "__init__": "(self, *spots)", "size": property, "whole": staticmethod,
            "spots": "(self)", "equation": "(self)", "moved": "(self, motion)",
            "__contains__": None, "__and__": None, "__or__": None, "__eq__": None,
            "__repr__": None,
        },
    },
    "kinds": {
        "is_kind": "(value)", "is_free_kind": "(kind)", "own_count": "(kind)",
        "table_of": "(kind, numbers)", "fits": "(kind, table)", "own_numbers": "(kind, table)",
        "stays": "(kind, table, other)", "is_narrower": "(kind, other)",
    },
    "sheets": {
        "Sheet": {
            "__init__": "(self, name, kind, readings=())", "readings": "(self)",
            "marks": "(self)", "spot": "(self, mark)", "with_reading": "(self, mark, spot)",
            "without": "(self, mark)", "named": "(self, name)", "of_kind": "(self, kind)",
            "__contains__": None, "__eq__": None, "__len__": None, "__repr__": None,
        },
    },
    "rooms": {
        "Room": {
            "__init__": "(self, *sheets, marks=())", "sheets": "(self)", "names": "(self)",
            "sheet": "(self, name)", "marks": "(self)", "loose": "(self)",
            "readers": "(self, mark)", "readings": "(self)", "is_free": property,
            "with_sheet": "(self, sheet)", "without_sheet": "(self, name)",
            "with_reading": "(self, name, mark, spot)", "without": "(self, name, mark)",
            "with_mark": "(self, mark)", "without_mark": "(self, mark)", "__contains__": None,
            "__iter__": None, "__eq__": None, "__len__": None, "__repr__": None,
        },
    },
    "texts": {"room_text": "(room)", "read_room": "(text)"},
    "points": {
        "is_point": "(room, value)", "point_text": "(point)", "read_point": "(room, text)",
    },
    "claims": {
        "check_claim": "(room, claim, at=0)", "check_saying": "(room, saying)",
        "is_plain": "(claim)", "claim_text": "(claim)", "saying_text": "(saying)",
        "read_claim": "(room, text, at=0)", "read_saying": "(room, text)",
    },
    "forms": {
        "unknowns": "(room)", "entry_form": "(room, name, row, column)",
        "place_form": "(room, point, axis)", "form_plus": "(one, other)",
        "form_times": "(form, weight)", "gap_form": "(room, claim, axis)",
        "press_form": "(room, name, side, direction, axis)",
        "bond_form": "(room, claim, word, direction, axis)",
    },
    "lands": {
        "Land": {
            "place": "(self, point)", "motion": "(self, name)", "value_of": "(self, unknown)",
            "at_form": "(self, form)", "spot": "(self, point, name)", "crushed": "(self)",
            "is_whole": property, "holds": "(self, claim)", "__add__": None, "__sub__": None,
            "__neg__": None, "scaled": "(self, weight)", "moved": "(self, motion)",
            "framed": "(self, name)", "__eq__": None, "__repr__": None,
        },
        "land_of": "(room, *, tables, moves, places)",
    },
    "sums": {
        "row_keys": "(room, told=())", "row_form": "(room, key, told=())",
        "is_sum": "(room, value, told=())", "sum_form": "(room, value, told=())",
        "sum_plus": "(one, other)", "sum_times": "(one, weight)",
    },
    "spaces": {
        "Space": {
            "__init__": "(self, room, *, told=())", "told": "(self)", "rank": property,
            "freedoms": property, "base": "(self)", "has": "(self, value)",
            "follows": "(self, form)", "sum_for": "(self, form)",
            "with_told": "(self, *claims)", "with_reading": "(self, name, mark, spot)",
            "without": "(self, name, mark)", "is_within": "(self, other)", "__eq__": None,
            "__repr__": None,
        },
    },
    "ledgers": {
        "Ledger": {
            "__init__": "(self, room, *, told=())", "put": "(self, key)", "kept": "(self)",
            "followed": "(self)", "sum_of": "(self, key)", "take_back": "(self)",
            "rank": property, "twin": "(self)", "__contains__": None, "__len__": None,
            "__repr__": None,
        },
    },
    "whole": {
        "press": "(space, name)", "pressed": "(space)", "stands": "(space)",
        "mixed": "(one, other)", "whole_land": "(space)",
    },
    "presses": {"crushed_paper": "(space)", "is_crushed_paper": "(space, value)"},
    "where": {
        "where": "(space, point, *, on)", "known_on": "(space, point)", "index_of": "(space)",
        "where_paper": "(space, point, *, on)", "is_where_paper": "(space, point, value, *, on)",
    },
    "judging": {
        "judge": "(space, saying)", "surely": "(space, claim)", "bond": "(space, claim)",
    },
    "grounds": {
        "judge_paper": "(space, saying)", "is_ground": "(space, claim, value)",
        "is_judge_paper": "(space, saying, value)",
    },
    "joints": {
        "Joint": {
            "size": property, "word": property, "flat": "(self)", "image": "(self)",
            "lead": "(self, spot)", "pairs": "(self)", "motion_over": "(self)", "back": "(self)",
            "then": "(self, following)", "__eq__": None, "__repr__": None,
        },
        "joint": "(space, one, other)", "joints": "(space)", "blocks": "(space)",
    },
    "areas": {
        "area": "(land, triple)", "quotient": "(space, triple, other)",
        "quotient_lands": "(space, triple, other)", "scale": "(space, one, other)",
        "scale_lands": "(space, one, other)",
    },
    "hands": {
        "hand": "(space, name)", "hand_paper": "(space, name)",
        "is_hand_paper": "(space, name, value)",
    },
    "spare": {
        "is_spare": "(space, name, mark)", "spare": "(space)",
        "spare_sums": "(space, name, mark)", "stripped": "(space, order=None)",
    },
    "settling": {
        "with_seen": "(space, land, pairs)", "settle": "(space, saying, *, land, among)",
    },
    "wrong": {
        "suspects": "(space)", "fewest": "(space, *, most=2)", "apart_papers": "(space)",
        "mended": "(space, name, mark)",
    },
    "redraw": {
        "redrawn": "(space, name, motion)", "flipped": "(space, name)", "overlaid": "(space, on)",
        "cut": "(space, name, first, second, other)", "joined": "(space, one, other)",
        "drawn_block": "(space, on)",
    },
    "listing": {"listing": "(room)"},
    "maproom": {
        "MapRoom": {
            "__init__": "(self)", "do": "(self, *deeds)", "undo": "(self)", "redo": "(self)",
            "begin": "(self)", "keep": "(self)", "drop": "(self)", "history": "(self)",
            "depth": property, "busy": property, "journal": "(self)", "held": "(self)",
            "told": "(self)", "space": "(self)", "tried": "(self, *deeds)", "say": "(self, line)",
            "__call__": "(self, line)", "log": "(self)", "twin": "(self)", "__eq__": None,
            "__len__": None, "__repr__": None,
        },
    },
    "maptexts": {"map_text": "(maproom)", "read_map": "(text)"},
}


class TestInterface(unittest.TestCase):
    def test_functions_and_classes_are_defined_in_their_files(self):
        for name, members in MODULES.items():
            module = import_module(f"lostland.{name}")
            for member in members:
                self.assertEqual(getattr(module, member).__module__, module.__name__)

    def test_arguments_of_functions(self):
        for name, members in MODULES.items():
            module = import_module(f"lostland.{name}")
            for member, expected in members.items():
                if isinstance(expected, str):
                    self.assertEqual(str(inspect.signature(getattr(module, member))), expected)

    def test_methods_stand_in_the_classes_themselves(self):
        for name, members in MODULES.items():
            module = import_module(f"lostland.{name}")
            for member, expected in members.items():
                if not isinstance(expected, dict):
                    continue
                body = vars(getattr(module, member))
                for method, form in expected.items():
                    self.assertIn(method, body)
                    if isinstance(form, str):
                        self.assertEqual(str(inspect.signature(body[method])), form)
                    elif form is not None:
                        self.assertIsInstance(body[method], form)
                    if form is staticmethod:
                        self.assertEqual(str(inspect.signature(body[method].__func__)), "()")


if __name__ == "__main__":
    unittest.main()
