"""The interface: each name stands, with its arguments, in the file and the class under which it is listed."""

import ast
import importlib
import inspect
import pathlib
import unittest

PACKAGE = pathlib.Path(__file__).parent.parent / "wheelchorus"

FUNCTIONS = {
    "numbers": {
        "is_number": "(thing)", "row_of": "(number)", "length_of": "(number)", "number_of": "(row)",
        "blocks": "(number)", "goes_ahead": "(one, other)",
    },
    "rows": {"strokes_of": "(number)", "pattern": "(number, times=1)"},
    "towntext": {"town_text": "(town)", "read_town": "(text)"},
    "fits": {
        "fits": "(number, within)", "fits_by_ticks": "(number, within)", "fit_blocks": "(number, within, at)",
        "train_fits": "(number, within, rounds)",
    },
    "heads": {"step_back": "(number, pattern)", "head_of": "(number, pattern)", "shared": "(one, other)"},
    "lays": {
        "train_strokes": "(number, at, rounds, span)", "lays": "(pattern, span, boxes, rounds, case)",
        "lay_of": "(facts, pattern, span, boxes, rounds, case)", "clash": "(one, other)",
    },
    "boxes": {"wheel": "(number, sort, rounds)"},
    "parts": {
        "near_part": "(boxes, stretches)", "far_part": "(boxes, stretches)", "dumb_part": "(boxes, stretches)",
        "wires": "(town, cuts, joined)", "dumb_numbers": "(town, cuts)",
    },
    "line": {"tried": "(line, deeds, ticks)", "play": "(town, timed, ticks)"},
    "waiting": {"meeting": "(numbers)", "due_rounds": "(rounds, pulls)", "most_ticks": "(rounds, numbers)"},
    "tapes": {
        "is_tape": "(thing)", "pieces": "(tape)", "walk_pieces": "(tape)", "piece_ticks": "(piece)",
        "rounds_on": "(tape)",
    },
    "hearing": {
        "heard_on": "(tape, hear)", "first_heard": "(tape, hear, number)", "calls_on": "(tapes, hear)",
    },
    "drawn": {
        "tape_text": "(tape)", "read_tape": "(text)", "columns": "(tape, width)", "piece_rows": "(tape)",
        "read_columns": "(rows)",
    },
    "covers": {"search": "(question)", "least_covers": "(question)", "least_cover": "(question)"},
    "coverjudge": {
        "cover_fault": "(question, lay_facts)", "tree_fault": "(question, tree)",
        "safe_fault": "(boxes, number, safe, *, rounds, hear=1, key=False)",
        "reading_fault": "(boxes, reading, *, hear=1, key=False)",
    },
    "readable": {
        "false_reading": "(boxes, number, *, rounds, hear=1, key=False)",
        "least_box_sets": "(boxes, number, *, rounds, hear=1, key=False)",
    },
    "deedrows": {"deed_row": "(town, reading, loop=None)", "cover_lines": "(question, lay_facts)"},
    "spoils": {
        "window": "(number, index)", "is_foreign": "(number, offset, *, rounds)",
        "spoilt_by": "(number, other, sort, at, *, rounds)", "stays": "(number, other, at, *, rounds)",
        "most_spoilt": "(number, other, sort, *, rounds)", "spoil_table": "(number, boxes, *, rounds)",
        "fewest": "(table, *, rounds, hear=1)",
    },
    "hiding": {
        "hidden": "(boxes, number, sort, *, rounds, hear=1)", "who_hides": "(boxes, *, rounds, hear=1)",
        "first_hidden": "(boxes, *, rounds, hear=1, most)", "hiding_page": "(boxes, *, rounds, hear=1)",
        "held_back": "(number, boxes, *, rounds, count)",
    },
    "hidingjudge": {"hiding_fault": "(boxes, number, sort, pulls, *, rounds, hear=1)"},
    "house": {"false_levels": "(house, faults=())", "guarded_ring": "(seekers, need)"},
    "panel": {"tried": "(panel, faults, beats)", "first_warning": "(house, beats, faults=())"},
    "cards": {"is_stations": "(thing)", "card_text": "(card)", "read_card": "(text)"},
    "orders": {
        "judge_orders": "(room, *, most_open)", "least_out": "(room, *, most_open)",
        "bare_rows": "(room, *, most_open)", "idle_crews": "(room, *, most_open)",
    },
    "orderjudge": {"table_fault": "(room, table, *, most_open)", "row_fault": "(room, events, *, most_open)"},
    "service_run": {"play_service": "(service, timed, ticks)"},
    "margins": {
        "rest_within": "(service)", "greatest_open": "(service)", "greatest_most": "(service)",
        "warning_after": "(service)",
    },
    "verdict": {"verdict": "(service)", "part_of": "(service, statement)"},
    "verdictjudge": {
        "shows": "(service, statement, number, timed, ticks)",
        "verdict_fault": "(service, verdict, *, statements=('false', 'hidden', 'houses', 'crews'))",
    },
    "changes": {"change_thing": "(change)", "changed": "(service, changes)"},
    "repairs": {"sets_of": "(many)", "least_repairs": "(service, pool)"},
    "repairjudge": {"repairs_fault": "(service, pool, entries, least)"},
    "tapedesk": {
        "desk_rows": "(book)", "desk_deeds": "(book)", "desk_book": "(service, tapes, deeds)",
        "book_fault": "(service, tapes, book)",
    },
    "doubts": {
        "rounds_ahead": "(tape)", "doubt": "(service, loop, number, ahead)", "sure_calls": "(service, tapes)",
    },
    "pages": {"book_page": "(rows)", "read_book": "(lines)", "repairs_page": "(repairs)"},
}

# For each class its own arguments (None if they are not told), its methods and its properties.
CLASSES = {
    "rows": {"Strokes": ("(self, offsets=())", {"within": "(self, other)", "cut": "(self, end)"}, ["lowest"])},
    "town": {"Town": ("(self, loops, *, rounds, hear=1)", {
        "sort_of": "(self, number)", "loop_of": "(self, number)", "place_of": "(self, number)",
        "wire": "(self, loop=None)", "with_sort": "(self, number, sort)", "with_number": "(self, old, new)",
        "with_rules": "(self, *, rounds=None, hear=None)",
    }, [])},
    "lays": {"Lay": (None, {"facts": "(self)", "gives": "(self, offset)", "clean": "(self, span)"}, [])},
    "boxes": {
        "WheelBox": ("(self, number, rounds)", {"pull": "(self)", "can_begin": "(self)", "begin": "(self)"},
                     ["standing", "breaks"]),
        "PlainBox": (None, {"__call__": "(self, broken)", "copied": "(self)"}, []),
        "ShyBox": (None, {"can_begin": "(self)", "__call__": "(self, broken)", "copied": "(self)"}, []),
    },
    "line": {
        "Line": ("(self, town)", {
            "pull": "(self, number)", "cut": "(self, loop, stretch)", "mend": "(self, loop, stretch)",
            "join": "(self)", "part": "(self)", "do": "(self, deed)", "tick": "(self)", "ticks": "(self, many)",
            "box": "(self, number)", "near_tape": "(self, loop)", "far_tape": "(self, loop)", "trial": "(self)",
        }, ["clock", "is_joined", "cuts", "last_signs", "tapes"]),
        "Trial": ("(self, line)", {}, []),
    },
    "tapes": {"Sign": (None, {}, [])},
    "hearing": {
        "Ear": ("(self, hear)", {"__call__": "(self, sign)"}, ["before"]),
        "Ears": ("(self, many, hear)", {"__call__": "(self, signs)"}, []),
    },
    "question": {
        "Question": ("(self, number, boxes, *, rounds, case, times=1, clean=False)", {
            "lay": "(self, facts)", "choices": "(self, stroke, chosen)", "__len__": "(self)", "__iter__": "(self)",
            "__contains__": "(self, x)",
        }, []),
    },
    "trees": {
        "Tree": ("(self, stroke, branches=())", {
            "size": "(self)", "leaves": "(self)", "__eq__": "(self, other)",
        }, []),
    },
    "covers": {
        "Cover": ("(self, lay_facts)", {"__len__": "(self)", "__iter__": "(self)", "__eq__": "(self, other)"}, []),
    },
    "readable": {
        "Reading": ("(self, number, rounds, form, case, first, second=())", {}, ["is_safe"]),
        "Safe": ("(self, number, papers)", {}, ["is_safe"]),
    },
    "hiding": {
        "Hiding": (None, {"__len__": "(self)", "__iter__": "(self)"}, []),
        "Holding": (None, {}, []),
    },
    "ring": {
        "Ring": ("(self, text)", {
            "all_faults": "(self)", "reached": "(self, faults)", "walk_from": "(self, end, faults)",
            "joined_with": "(self, other)", "__len__": "(self)", "__iter__": "(self)", "__eq__": "(self, other)",
        }, []),
    },
    "house": {
        "House": ("(self, box, ring, *, mark, rows, need=1)", {
            "with_rules": "(self, *, ring=None, mark=None, rows=None, need=None)", "is_silent": "(self, *faults)",
            "silent_faults": "(self)", "least_lots": "(self)", "__eq__": "(self, other)",
        }, []),
    },
    "panel": {
        "Panel": ("(self, house)", {
            "put_fault": "(self, fault)", "mend_fault": "(self, fault)", "reset": "(self)", "beat": "(self, levels)",
        }, []),
    },
    "cards": {"Card": ("(self, number, order, *, counts, owed=(0, 0, 0), moves=())", {}, [])},
    "room": {
        "Room": ("(self, stations, cards)", {
            "start": "(self)", "card_of": "(self, number)", "allowed": "(self, standing, most_open)",
            "step": "(self, standing, event)", "with_card": "(self, card)",
        }, []),
    },
    "watch": {
        "Watch": ("(self, room)", {
            "call": "(self, number)", "more": "(self, number)", "back": "(self, number)", "grade": "(self, number)",
            "out_to": "(self, number)", "place": "(self, crew)",
        }, ["standing"]),
    },
    "orders": {"Orders": (None, {}, ["is_safe"])},
    "service": {
        "Service": (
            "(self, town, *, houses=(), stations=(0,), cards=(), cutting=False, joining=False, most=0, most_open=1)",
            {"house_of": "(self, box)", "with_parts": "(self, **more)", "__eq__": "(self, other)"}, []),
    },
    "service_run": {
        "ServiceRun": ("(self, service)", {
            "pull": "(self, number)", "cut": "(self, loop, stretch)", "mend": "(self, loop, stretch)",
            "join": "(self)", "part": "(self)", "fault": "(self, box, fault)", "heal": "(self, box, fault)",
            "levels": "(self, box, levels)", "more": "(self, number)", "back": "(self, number)",
            "do": "(self, happening)", "tick": "(self)", "ticks": "(self, many)", "box": "(self, number)",
            "grade": "(self, number)", "place": "(self, crew)", "rests": "(self)", "__iter__": "(self)",
            "__len__": "(self)",
        }, ["clock", "is_joined", "cuts", "tapes", "book", "log", "hearings", "sendings", "pullings"]),
    },
    "verdict": {
        "Verdict": ("(self, statement, *, number=None, wire_index=None, timed=(), duration=0, papers=())",
                    {"__bool__": "(self)"}, ["is_safe"]),
    },
    "repairs": {
        "Repairs": (None, {
            "fate": "(self, chosen)", "paper": "(self, chosen)", "service_of": "(self, chosen)", "__iter__": "(self)",
            "__len__": "(self)", "__contains__": "(self, x)",
        }, []),
    },
    "tapedesk": {
        "TapeDesk": ("(self, service)", {
            "take": "(self, near, far)", "more": "(self, number)", "back": "(self, number)", "__iter__": "(self)",
            "__len__": "(self)",
        }, ["clock", "book", "standing"]),
    },
}

CLASS_VALUES = {
    ("town", "Town", "PLAIN"): "plain", ("town", "Town", "SHY"): "shy", ("tapes", "Sign", "CLOSED"): 0,
    ("tapes", "Sign", "BROKEN"): 1, ("tapes", "Sign", "KEY"): 2, ("cards", "Card", "GRADES"): 3,
    ("verdict", "Verdict", "STATEMENTS"): ("false", "hidden", "houses", "crews"),
}


def module_of(name):
    return importlib.import_module("wheelchorus." + name)


class InterfaceTest(unittest.TestCase):
    def test_functions(self):
        for name, functions in FUNCTIONS.items():
            body = ast.parse((PACKAGE / f"{name}.py").read_text()).body
            defined = {node.name for node in body if isinstance(node, ast.FunctionDef)}
            for function, arguments in functions.items():
                self.assertIn(function, defined, name)
                found = getattr(module_of(name), function)
                self.assertEqual(str(inspect.signature(found)), arguments, function)

    def test_classes(self):
        for name, classes in CLASSES.items():
            body = ast.parse((PACKAGE / f"{name}.py").read_text()).body
            defined = {node.name for node in body if isinstance(node, ast.ClassDef)}
            for word, (arguments, methods, properties) in classes.items():
                self.assertIn(word, defined, name)
                found = getattr(module_of(name), word)
                if arguments is not None:
                    self.assertEqual(str(inspect.signature(found.__init__)), arguments, word)
                for method, told in methods.items():
                    self.assertIn(method, vars(found), word)
                    self.assertEqual(str(inspect.signature(vars(found)[method])), told, method)
                for told in properties:
                    self.assertIsInstance(vars(found)[told], property)

    def test_class_values(self):
        for (name, word, told), worth in CLASS_VALUES.items():
            self.assertEqual(vars(getattr(module_of(name), word))[told], worth)

    def test_generators(self):
        self.assertTrue(inspect.isgeneratorfunction(module_of("lays").lays))
        self.assertTrue(inspect.isgeneratorfunction(module_of("tapes").walk_pieces))
        self.assertTrue(inspect.isgeneratorfunction(module_of("line").Line.ticks))
        self.assertTrue(inspect.isgeneratorfunction(module_of("trees").Tree.leaves))
        self.assertTrue(inspect.isgeneratorfunction(module_of("covers").least_covers))
        self.assertTrue(inspect.isgeneratorfunction(module_of("ring").Ring.walk_from))
        self.assertTrue(inspect.isgeneratorfunction(module_of("service_run").ServiceRun.ticks))
        self.assertTrue(inspect.isgeneratorfunction(module_of("repairs").sets_of))


if __name__ == "__main__":
    unittest.main()
