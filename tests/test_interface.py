"""That what the interface lists exists under its name, with its arguments, in the file that lists it."""

import ast
import importlib
import inspect
import pathlib
import unittest

PACKAGE = pathlib.Path(__file__).resolve().parent.parent / "foldkeep"

FUNCTIONS = {
    "names": {
        "is_name": "(text)", "same_name": "(rule, first, second)", "fits": "(rule, name)", "path_text": "(path)",
        "read_path": "(text)",
    },
    "copies": {
        "ending": "(name)", "stem": "(name)", "copy_name": "(longest, name, number, k)",
        "numbered_name": "(longest, name, k)",
    },
    "patterns": {"matches": "(pattern, name)", "ignored": "(patterns, name)"},
    "marks": {"checksum": "(text, factor)", "mark_of": "(text, runs)", "piece_of": "(text, start)"},
    "hosts": {"host_copy": "(host)"},
    "lines": {
        "find_line": "(lines, line_id)", "find_head": "(lines, head)", "stands": "(lines, line)",
        "settle": "(lines, place)", "move_line": "(lines, head, line_id, place)", "lines_after": "(lines, edit)",
        "fold_lines": "(lines, edits)", "lines_of": "(edits)",
    },
    "news": {
        "news_for": "(knowledge, since)", "edits_sound": "(edits)", "lines_sound": "(lines)",
        "can_hear": "(knowledge, me, news)", "hear_news": "(knowledge, me, news)", "forget": "(knowledge)",
        "forget_up_to": "(knowledge, clock)",
    },
    "shown": {"shown_tree": "(rule, taken, lines)", "shown_at": "(tree, path, content)"},
    "state": {
        "placed_row": "(entry)", "shelved_row": "(entry)", "placed_at": "(placed, path)", "file_at": "(placed, path)",
        "folder_at": "(placed, path)", "had_at": "(had, path)", "with_had": "(had, path, ids)",
        "shelved_at": "(shelf, place)", "state_copy": "(state)",
    },
    "scanning": {
        "scan_question": "(scan)", "answer_to_scan": "(state, scan, answer)", "scan_copy": "(scan)",
    },
    "telling": {
        "names_at": "(placed, path, own)", "place_at": "(placed, path, own)", "own_name": "(entry, path)",
        "replaced_by": "(state, had, read, was, thing, cuts)",
    },
    "ending": {"end_scan": "(state, scan)"},
    "wanted": {
        "wanted": "(state)", "wanted_at": "(entries, path)", "suits": "(entries, item)", "serves": "(state, ids, was)",
        "text_place": "(state, content, ids)", "waits": "(state, path)",
    },
    "changes": {
        "back_target": "(rule, path, tries)", "next_change": "(state)", "ask_for": "(state, operation)",
    },
    "looking": {
        "lying_at": "(lying, place)", "put_right": "(shelf, lying)", "look": "(state, lying)",
    },
    "otherwise": {"read_found": "(state, place, was_read, answer)"},
    "expected": {
        "coming_entry": "(state, head)", "is_whole": "(entry)", "mark_of_head": "(state, head)",
        "source": "(state, head)", "lacking": "(state)", "expect": "(state, head, mark)", "see_to_coming": "(state)",
    },
    "transfers": {"next_staging": "(state)", "fits_now": "(state, head, start)"},
    "serving": {
        "serving_operation": "(state, request)", "served": "(state, answer)",
        "misread": "(state, head, thing, count, cuts, length)", "hear_ask": "(state, device, head, start)",
        "hear_piece": "(state, head, start, text)", "say_asks": "(state)",
    },
    "holding": {
        "holds_now": "(state, entry)", "is_held": "(state, place)", "hear_hold": "(state, device, number, head)",
        "hear_held": "(state, device, number)", "hear_free": "(state, device, number)", "say_away": "(state, device)",
    },
    "away": {
        "is_away": "(state, head)", "is_here": "(state, head)", "see_to_away": "(state)",
        "wish_put_away": "(state, path, holder)", "wish_fetch": "(state, path)",
    },
    "kept": {
        "is_spare": "(state, entry)", "wish_trim": "(state, most)", "next_drop": "(state)",
        "wish_restore": "(state, place, path)",
    },
    "codes": {
        "pack_text": "(text)", "pack_path": "(path)", "pack_edit": "(edit)", "pack_line": "(line)",
        "pack_placed": "(item)", "pack_shelved": "(entry)", "pack_operation": "(operation)", "read_edit": "(reader)",
        "read_line": "(reader)", "read_placed": "(reader)", "read_shelved": "(reader)", "read_operation": "(reader)",
    },
    "saved": {"pack_state": "(state)", "save_text": "(state)", "load_text": "(text)"},
    "keeper": {"load_keeper": "(text)", "keeper_copy": "(keeper)"},
    "scripts": {"read_event": "(line)", "read_events": "(text)", "run_script": "(net, text)"},
}

CLASSES = {
    "errors": {
        "FoldError": {}, "NotPossible": {}, "NotNow": {}, "NoSuchDevice": {}, "NoSuchLetter": {}, "NoKeeper": {},
        "NoScript": {},
    },
    "names": {
        "Rule": {
            "__init__": "(self, *, alike=(), unfit=(), longest=80, swaps=True, reads=True, cuts=True, turns=True)",
        },
    },
    "hosts": {
        "Host": {
            "__init__": "(self, rule)", "program": "(self, deed)", "ask": "(self, operation)", "tree": "(self)",
            "outside": "(self)", "shelf": "(self)",
        },
    },
    "knowing": {
        "Knowledge": {
            "__init__": "(self, devices, *, clock=0, base=(), upto=0, rest=(), knows=None)", "lines": "(self)",
            "is_head": "(self, edit_id)", "known_up_to": "(self, device)",
            "write": "(self, me, place, content, line, replaces)", "drop": "(self, me, replaces)",
            "move": "(self, me, moved)", "copy_of": "(self)",
        },
    },
    "state": {
        "KeeperState": {
            "__init__": "(self, me, devices, rule, ignores, *, know=None, heard=(), placed=(), had=(), taken=(), "
                        "shelf=(), next_place=0, pending=None, late=(), requests=(), pieces=(), away=(), holding=(), "
                        "asking=(), fetching=(), drops=(), next_number=0, stage=('idle',))",
        },
        "Placed": {"__init__": "(self, path, names, thing, count, cuts, content, ids, line, seen)"},
        "Shelved": {"__init__": "(self, place, thing, count, cuts, length, purpose)"},
    },
    "scanning": {
        "Found": {"__init__": "(self, path, thing, kind, count, cuts, mark)"},
        "Scan": {"__init__": "(self, heads)"},
    },
    "codes": {
        "Reader": {
            "__init__": "(self, numbers)", "number": "(self)", "flag": "(self)", "sign": "(self)", "text": "(self)",
            "path": "(self)", "edit_id": "(self)", "edit_ids": "(self)", "maybe_id": "(self)", "mark": "(self)",
            "content": "(self)", "size": "(self)", "at_end": "(self)",
        },
    },
    "keeper": {
        "Keeper": {
            "__init__": "(self, me, devices, rule, ignores=())", "want": "(self)", "told": "(self, answer)",
            "hear": "(self, sender, word)", "speak": "(self, receiver)", "wish": "(self, wished)", "crash": "(self)",
            "status": "(self)", "lines": "(self)", "wanted": "(self)", "save": "(self)",
        },
    },
    "net": {
        "Net": {
            "__init__": "(self, rules, ignores=())", "program": "(self, device, deed)", "step": "(self, device)",
            "refuse": "(self, device)", "unanswered": "(self, device)", "crash": "(self, device)",
            "speak": "(self, device, other)", "deliver": "(self, place)", "lose": "(self, place)",
            "again": "(self, place)", "wish": "(self, device, wished)", "work": "(self, device, most)",
            "post": "(self, most)", "host_of": "(self, device)", "keeper_of": "(self, device)", "fork": "(self)",
        },
    },
}

CONSTANTS = {"marks": {"MOST_PIECE": 4096}, "serving": {"MOST_REQUESTS": 64}}


def defined_in(name):
    """The functions, classes and methods that are defined in a file: names, and pairs of names."""
    tree = ast.parse((PACKAGE / (name + ".py")).read_text(encoding="utf-8"))
    found = []
    for node in tree.body:
        if isinstance(node, (ast.FunctionDef, ast.ClassDef)):
            found.append(node.name)
        if isinstance(node, ast.ClassDef):
            found.extend((node.name, one.name) for one in node.body if isinstance(one, ast.FunctionDef))
    return found


class Interface(unittest.TestCase):
    def test_functions(self):
        for name, functions in FUNCTIONS.items():
            module = importlib.import_module("foldkeep." + name)
            for word, arguments in functions.items():
                with self.subTest(file=name, name=word):
                    self.assertIn(word, defined_in(name))
                    self.assertEqual(str(inspect.signature(getattr(module, word))), arguments)

    def test_classes(self):
        for name, classes in CLASSES.items():
            module = importlib.import_module("foldkeep." + name)
            for word, methods in classes.items():
                with self.subTest(file=name, name=word):
                    self.assertIn(word, defined_in(name))
                    for method, arguments in methods.items():
                        self.assertIn((word, method), defined_in(name))
                        made = getattr(getattr(module, word), method)
                        self.assertEqual(str(inspect.signature(made)), arguments)

    def test_constants(self):
        for name, constants in CONSTANTS.items():
            module = importlib.import_module("foldkeep." + name)
            for word, value in constants.items():
                self.assertEqual(getattr(module, word), value)


if __name__ == "__main__":
    unittest.main()
