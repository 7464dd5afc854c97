"""The interface of the document, and the form of the package's files."""

import ast
import builtins
import inspect
import pathlib
import unittest

from guessedworlds import (
    books, branches, changes, codes, desks, disks, errors, folding, games, gametexts, grounds, hosts, inputrows,
    letters,
    machines, marks, moves, nets, numbers, peers, pictures, programs, reels, replays, rows, runs, savings, sources,
    standings, ticks, timelines, worldrows, worlds,
)

FOLDER = pathlib.Path(errors.__file__).parent
FILES = sorted(FOLDER.rglob("*.py"))
TREES = {path.name: ast.parse(path.read_text("utf-8")) for path in FILES}
INTERFACE = {
    numbers: {
        "wrapped": ["number"], "next_seed": ["seed"], "seed_after": ["seed", "many"], "drawn": ["seed", "below"],
    },
    grounds: {
        "Ground": ["rows"], "sign_at": ["ground", "x", "y"], "is_open": ["ground", "x", "y", "wide", "high"],
    },
    programs: {"Program": ["handlers"]},
    games: {
        "Kind": ["wide", "high", "solid", "pull", "program"], "Game": ["players", "ground", "kinds", "births"],
    },
    worlds: {
        "World": ["tick", "seed", "shared", "count", "bodies", "said"], "is_world": ["game", "thing"],
        "first_world": ["game", "seed"],
    },
    # What the document calls id has another name here, as id is a builtin's: arguments are passed by position.
    moves: {"moved": ["game", "world"], "room": ["game", "world", "body_id", "way"]},
    standings: {
        "Standing": ["tick", "seed", "shared", "bodies", "said", "asked", "leaving"], "standing_of": ["world"],
    },
    runs: {"ran": ["game", "standing", "body_id", "word", "other", "side", "inputs"]},
    codes: {"compiled": ["body"], "heights": ["code"], "is_code": ["thing"]},
    machines: {"ran_code": ["game", "standing", "body_id", "code", "other", "side", "inputs"]},
    folding: {"folded": ["code"]},
    ticks: {
        "ticked": ["game", "standing", "inputs"], "pulled": ["game", "standing"], "carried": ["game", "standing"],
        "met": ["game", "standing", "walls", "touches", "inputs"], "closed": ["game", "standing", "count"],
        "next_world": ["game", "world", "inputs"], "run_of": ["game", "world", "rows"],
    },
    rows: {"whole": ["number"], "signed": ["number"], "read_whole": ["row", "at"], "read_signed": ["row", "at"]},
    worldrows: {"world_row": ["game", "world"], "read_world": ["game", "row"]},
    marks: {"mark": ["row"], "mark_behind": ["mark", "row"]},
    changes: {
        "changed": ["one", "change"], "change": ["one", "other"], "is_change": ["one", "other", "thing"],
    },
    inputrows: {"input_row": ["inputs"], "read_inputs": ["row", "at"]},
    books: {"Book": ["players"], "rebuilt": ["players", "deeds"], "guess": ["last", "ago", "hold"]},
    timelines: {"Timeline": ["game", "world", "keep"]},
    letters: {
        "sealed": ["row"], "unsealed": ["row"], "read_letter": ["match", "players", "row"],
        "letter_row": ["match", "players", "letter"],
    },
    hosts: {"Host": ["game", "seed", "match", "book"]},
    peers: {"Peer": ["game", "seed", "match", "place", "seat", "rules", "past"]},
    nets: {"Net": ["game", "seed", "match", "rules"], "led": ["net", "deeds"], "round_trip": ["net"]},
    sources: {
        "expression_text": ["expression"], "source_of": ["program"], "read_expression": ["text"],
        "read_source": ["text"],
    },
    gametexts: {"game_text": ["game"], "read_game": ["text"], "game_mark": ["game"]},
    pictures: {
        "drawn": ["game", "world"], "cut_out": ["picture", "row", "place", "high", "wide"],
        "redrawn": ["picture", "changes"], "body_lines": ["game", "world"], "changes": ["one", "other"],
        "Screen": ["game"],
    },
    disks: {
        "Disk": [], "record": ["row"], "deed_row": ["deed"], "read_record": ["row"], "read_deed": ["row"],
        "kept_deeds": ["players", "blocks"],
    },
    savings: {
        "SavedHost": ["game", "seed", "match", "disk"],
        "SavedPeer": ["game", "seed", "match", "place", "seat", "rules", "disk"],
        "past_row": ["past"], "read_past": ["game", "row"],
    },
    replays: {
        "Replay": ["game", "seed", "every", "turns"], "replay_of": ["game", "seed", "every", "book"],
        "read_replay": ["game", "row"], "key_marks": ["replay"], "replay_row": ["replay"],
    },
    reels: {"Reel": ["replay"]},
    branches: {"Branches": ["game", "seed"]},
    desks: {"Desk": []},
}
# What the document calls input has another name here, as input is a builtin's.
HOST_METHODS = {
    "book": [], "settled": [], "base": [], "world": [], "open_seat": ["seat"], "close_seat": ["seat"],
    "forget": ["tick"], "hear": ["thing"], "places": [], "letters": ["place"],
}
PEER_METHODS = {
    "press": ["pressed"], "forget": ["tick"], "leave": [], "settled": [], "shown_tick": [], "base": [], "worked": [],
    "waits": [], "advance": [], "inputs": ["tick"], "own": [], "past": [], "shown": [], "settled_world": [], "say": [],
    "hear": ["thing"], "apart": [],
}
METHODS = {
    books.Book: {
        "word": ["seat"], "begin": ["seat"], "ending": ["seat"], "settled": [], "tell": ["seat", "tick", "inputs"],
        "open_seat": ["seat", "tick"], "close_seat": ["seat"], "input_at": ["seat", "tick"], "inputs": ["tick"],
        "deeds": [], "copy": [],
    },
    timelines.Timeline: {
        "base": [], "ending": [], "worked": [], "advance": ["inputs"], "correct": ["tick", "inputs"],
        "settle": ["tick"], "inputs": ["tick"], "world": ["tick"], "copy": [],
    },
    hosts.Host: HOST_METHODS,
    peers.Peer: PEER_METHODS,
    nets.Net: {"host": [], "peer": ["place"], "places": [], "bag": [], "deed": ["thing"]},
    pictures.Screen: {"show": ["world"], "picture": [], "shown": []},
    disks.Disk: {
        "write": ["row"], "sync": [], "synced": [], "blocks": [], "cut": ["kept"], "drop": ["number"], "copy": [],
    },
    savings.SavedHost: {**HOST_METHODS, "store": []},
    savings.SavedPeer: {**PEER_METHODS, "store": []},
    reels.Reel: {"stands": [], "worked": [], "world": [], "seek": ["tick"], "kept": [], "copy": []},
    branches.Branches: {
        "grow": ["node", "inputs"], "meet": ["one", "other"], "many": [], "worked": [], "graft": ["replay"],
        "world": ["node"], "path": ["node"], "below": ["node"], "above": ["node"], "replay": ["node", "every"],
    },
    desks.Desk: {"tell": ["line"]},
}
ALLOWED_BUILTINS = """len range enumerate zip min max sum abs sorted reversed int str bool list tuple dict set
    isinstance ord repr any all divmod map iter next ValueError KeyError IndexError LookupError""".split()
BARRED = (ast.Global, ast.AsyncFunctionDef, ast.Await, ast.Div, ast.MatMult, ast.Import)


def nodes():
    """All nodes of all files, with the names of their files."""
    return [(name, node) for name, tree in TREES.items() for node in ast.walk(tree)]


class Interface(unittest.TestCase):
    def test_each_name_stands_in_its_file_with_its_arguments(self):
        for module, names in INTERFACE.items():
            for name, arguments in names.items():
                thing = getattr(module, name)
                self.assertEqual(thing.__module__, module.__name__)
                self.assertEqual(list(inspect.signature(thing).parameters), arguments)

    def test_each_method_stands_in_its_class_with_its_arguments(self):
        for kind, names in METHODS.items():
            for name, arguments in names.items():
                self.assertEqual(list(inspect.signature(vars(kind)[name]).parameters), ["self", *arguments])

    def test_each_class_compares_by_itself(self):
        for kind in (
            grounds.Ground, programs.Program, games.Kind, games.Game, worlds.World, standings.Standing,
            replays.Replay,
        ):
            self.assertIn("__eq__", vars(kind))


class Form(unittest.TestCase):
    def test_the_folder_holds_python_files_alone(self):
        for path in FOLDER.rglob("*"):
            if "__pycache__" not in path.parts:
                self.assertTrue(path.is_dir() or path.suffix == ".py", path)
                self.assertEqual(path.name, path.name.lower())
        self.assertIn("__init__.py", TREES)

    def test_characters_and_sizes(self):
        for path in FILES:
            text = path.read_text("utf-8")
            self.assertEqual([sign for sign in text if sign != "\n" and not " " <= sign <= "~"], [], path)
            lines = text.split("\n")
            self.assertLessEqual(len(lines), 399, path)
            self.assertEqual([line for line in lines if len(line) > 120], [], path)

    def test_functions_are_small_and_plain(self):
        for name, node in nodes():
            if isinstance(node, (ast.FunctionDef, ast.ClassDef)):
                self.assertEqual(node.decorator_list, [], (name, node.name))
            if isinstance(node, ast.FunctionDef):
                self.assertLessEqual(node.end_lineno - node.lineno + 1, 40, (name, node.name))
                self.assertNotIn(node.name, vars(builtins))

    def test_modules_hold_definitions_alone(self):
        for name, tree in TREES.items():
            for node in tree.body[1:]:
                self.assertIsInstance(node, (ast.ImportFrom, ast.FunctionDef, ast.ClassDef, ast.Assign), name)
                if isinstance(node, ast.Assign):
                    self.check_value(tree, node)

    def check_value(self, tree, node):
        """A plain value, or a table of functions that are defined above it."""
        above = [part.name for part in tree.body if isinstance(part, ast.FunctionDef) and part.lineno < node.lineno]
        values = node.value.values if isinstance(node.value, ast.Dict) else []
        if values and isinstance(values[0], ast.Name):
            self.assertEqual([value.id for value in values if value.id not in above], [])
        else:
            ast.literal_eval(node.value)

    def test_imports_are_of_the_package_and_of_the_defining_file(self):
        for name, node in nodes():
            if isinstance(node, ast.ImportFrom):
                self.assertTrue(node.module.startswith("guessedworlds."), (name, node.module))
                there = TREES[node.module.split(".")[1] + ".py"].body
                defined = [part.name for part in there if isinstance(part, (ast.FunctionDef, ast.ClassDef))]
                defined += [part.targets[0].id for part in there if isinstance(part, ast.Assign)]
                for alias in node.names:
                    self.assertIn(alias.name, defined, name)
                    self.assertIsNone(alias.asname)

    def test_nothing_that_is_barred_is_used(self):
        for name, node in nodes():
            self.assertNotIsInstance(node, BARRED, name)
            if isinstance(node, ast.Constant):
                self.assertNotIsInstance(node.value, (float, complex, bytes), name)
            if isinstance(node, ast.Name) and node.id in vars(builtins):
                self.assertIn(node.id, ALLOWED_BUILTINS, name)
            if isinstance(node, ast.arg):
                self.assertNotIn(node.arg, vars(builtins), name)


if __name__ == "__main__":
    unittest.main()
