"""What a plain test can tell of the rules of the language, and of the interface."""

import ast
import builtins
import os
import re
import unittest

FOLDER = os.path.join(os.path.dirname(os.path.dirname(os.path.abspath(__file__))), "sweptfree")
LIBRARY = {"math": {"gcd", "lcm", "isqrt"}, "heapq": {"heappush", "heappop"}}
BUILTINS = {
    "len", "range", "enumerate", "zip", "min", "max", "sum", "abs", "sorted", "reversed", "int", "str", "bool", "list",
    "tuple", "dict", "set", "isinstance", "ord", "repr", "any", "all", "divmod", "ValueError", "LookupError",
}
METHODS = {"append", "extend", "pop", "index", "get", "join", "items", "values", "add", "count", "copy", "insert", "reverse",
           "bit_length", "setdefault"}
BARRED = {
    "register", "mro", "elements", "law", "version_info", "with_traceback", "add_note", "attrgetter", "builtins", "gc",
    "importlib", "methodcaller", "os", "sys",
}
WORDS_BARRED = (
    "type", "typing", "typing_extensions", "enum", "Enum", "IntEnum", "StrEnum", "Flag", "IntFlag", "Generic",
    "Protocol", "ABC", "ABCMeta", "namedtuple", "NamedTuple", "TypedDict", "TYPE_CHECKING", "abstractmethod",
    "dataclass", "overload", "contextmanager", "_wall", "_WallAttr",
)
INTERFACE = {
    "words": {"is_name", "is_integer", "is_fraction", "is_point"},
    "trees": {"check_scene_tree", "check_task_tree", "part_at"},
    "lexemes": {"lexemes"},
    "scenetexts": {"scene_text", "shape_text", "read_scene"},
    "tasktexts": {"task_text", "fraction_text", "read_task"},
    "fractions": {"is_fraction", "made", "whole", "plus", "minus", "times", "over", "less", "sign_of", "middle",
                  "floor_of"},
    "pieces": {"side_of", "is_point", "check_piece", "check_shape", "where", "area_twice", "hull", "turned_about",
               "moved", "are_apart"},
    "rings": {"check_ring", "ring_area_twice", "where_in_ring", "triangles", "cut", "is_lean", "judge_cut"},
    "sums": {"sum_of", "swept"},
    "meeting": {"relation", "paper_of", "judge_paper"},
    "shapemeeting": {"shape_relation", "first_meeting", "shape_paper", "judge_shape_paper"},
    "leading": {"led_relation", "moment_of", "judge_moment"},
    "scenes": {"check_scene", "is_mode", "is_standing", "many_sliders", "held_by"},
    "places": {"place_of", "marks_of", "laid_out", "looked_at"},
    "bars": {"made_form", "form_value", "form_sign", "bars_at", "apart_at", "contacts_of", "bars_of",
             "contacts_between", "limit_forms", "forms_in", "place_forms", "room_bars"},
    "free": {"is_within", "is_free", "is_clear", "meeting", "touching"},
    "systems": {"value_at", "keeps", "gone", "solve", "judge_never"},
    "bounds": {"extent", "follows", "bounding", "rank_of", "dimension"},
    "frames": {"check_frame", "frame_of", "signs_at", "is_within"},
    "cells": {"point_in", "dimension", "underlies", "all_cells", "faces", "cofaces"},
    "rooms": {"bars_row", "apart_row", "free_row", "clear_row", "parts", "clear_parts", "way_of_cells"},
    "closedlists": {"closed_list", "judge_closed"},
    "legs": {"slack_at", "standing_at", "span", "slack_on", "leg_fault", "is_clear_leg"},
    "ways": {"judge_way", "is_clear_way", "is_lean_way", "made_lean"},
    "turns": {"stretch_on", "paces_of", "is_in_turns", "in_turns"},
    "tasks": {"check_task", "mode_behind", "deed_word", "unmet", "mode_numbers", "modes_of"},
    "nodes": {"task_frame", "node_of", "next_nodes", "is_goal_node"},
    "plans": {"plan", "judge_plan", "judge_none"},
    "prices": {"plan_price", "least_price", "least_deeds", "price_without", "cheapest_plan", "price_paper",
               "judge_price_paper"},
    "bench": {"touches_on", "Bench"},
    "desk": {"Desk"},
    "console": {"Console"},
}
CLASSES = {
    "bench": ("Bench", {"steps", "position", "standing", "touches", "is_quiet"}),
    "desk": ("Desk", {"scene", "task", "act_word", "do", "undo", "redo", "acts", "plan", "paper", "price", "work", "mark",
                      "since", "marks", "twin"}),
    "console": ("Console", {"answer"}),
}


def files():
    return sorted(name for name in os.listdir(FOLDER) if name != "__pycache__")


def text_of(name):
    with open(os.path.join(FOLDER, name), encoding="utf-8") as file:
        return file.read()


def own_names(tree):
    return [node.name for node in tree.body if isinstance(node, (ast.FunctionDef, ast.ClassDef))]


def bound_names(tree):
    """All names that a file binds, wherever."""
    for node in ast.walk(tree):
        if isinstance(node, (ast.FunctionDef, ast.ClassDef)):
            yield node.name
        elif isinstance(node, ast.arg):
            yield node.arg
        elif isinstance(node, ast.Name) and not isinstance(node.ctx, ast.Load):
            yield node.id
        elif isinstance(node, ast.alias):
            yield node.name


class LanguageTest(unittest.TestCase):

    def trees(self):
        return [(name, ast.parse(text_of(name))) for name in files()]

    def test_files_and_lines(self):
        self.assertIn("__init__.py", files())
        for name in files():
            self.assertRegex(name, "^[a-z_]+[.]py$")
            lines = text_of(name).split("\n")
            self.assertLessEqual(len(lines), 400, name)
            self.assertEqual(lines[-1], "", name)
            for line in lines:
                self.assertLessEqual(len(line), 120, name)
                self.assertTrue(all(" " <= sign <= "~" for sign in line), (name, line))

    def test_functions(self):
        for name, tree in self.trees():
            for node in ast.walk(tree):
                if isinstance(node, ast.FunctionDef):
                    self.assertLessEqual(node.end_lineno - node.lineno + 1, 40, (name, node.name))
                    self.assertEqual(node.decorator_list, [], (name, node.name))

    def test_imports(self):
        for name, tree in self.trees():
            own = {file[:-3] for file in files()}
            for node in ast.walk(tree):
                self.assertNotIsInstance(node, ast.Import, name)
                if not isinstance(node, ast.ImportFrom):
                    continue
                self.assertIn(node, tree.body)
                for alias in node.names:
                    self.assertIsNone(alias.asname, name)
                    if node.module in LIBRARY:
                        self.assertIn(alias.name, LIBRARY[node.module])
                    else:
                        package, module = node.module.split(".")
                        self.assertEqual(package, "sweptfree")
                        self.assertIn(module, own)
                        bound = [part.id for part in ast.walk(ast.parse(text_of(module + ".py")))
                                 if isinstance(part, ast.Name) and isinstance(part.ctx, ast.Store)]
                        self.assertIn(alias.name, own_names(ast.parse(text_of(module + ".py"))) + bound)

    def test_imports_are_used(self):
        for name, tree in self.trees():
            read = {node.id for node in ast.walk(tree) if isinstance(node, ast.Name)}
            told = {alias.name for node in tree.body if isinstance(node, ast.ImportFrom) for alias in node.names}
            self.assertLessEqual(told, read, name)

    def test_no_ring_of_imports(self):
        ahead = {}
        for name, tree in self.trees():
            ahead[name[:-3]] = {node.module.split(".")[1] for node in ast.walk(tree)
                                if isinstance(node, ast.ImportFrom) and node.module not in LIBRARY}
        while ahead:
            ready = [name for name in ahead if not ahead[name] & set(ahead)]
            self.assertTrue(ready, ahead)
            for name in ready:
                del ahead[name]

    def test_statements_and_values(self):
        barred = (ast.AsyncFunctionDef, ast.Global, ast.Lambda, ast.Yield, ast.With, ast.Div, ast.NamedExpr,
                  ast.AnnAssign, ast.Delete, ast.Match)
        for name, tree in self.trees():
            for node in ast.walk(tree):
                self.assertNotIsInstance(node, barred, name)
                if isinstance(node, ast.Constant):
                    self.assertIn(type(node.value), (int, str, bool, type(None)), name)
                    self.assertNotIn("%", str(node.value), name)
                if isinstance(node, ast.Compare):
                    for sign, right in zip(node.ops, node.comparators):
                        if isinstance(sign, (ast.Is, ast.IsNot)):
                            self.assertIn(ast.unparse(right), ("None", "True", "False"), name)
                if isinstance(node, ast.arguments):
                    self.assertEqual((node.vararg, node.kwarg, node.kwonlyargs, node.posonlyargs), (None, None, [], []))

    def test_errors_that_are_caught(self):
        """Own ones alone, by name."""
        own = own_names(ast.parse(text_of("errors.py")))
        for name, tree in self.trees():
            for node in ast.walk(tree):
                if isinstance(node, ast.Try):
                    self.assertEqual(node.finalbody, [], name)
                    for handler in node.handlers:
                        self.assertIn(handler.type.id, own, name)

    def test_classes(self):
        """No name is a method and an attribute; the methods of the interface stand in the class itself."""
        attributes, methods = set(), set()
        for name, tree in self.trees():
            for node in ast.walk(tree):
                if isinstance(node, ast.ClassDef):
                    methods |= {part.name for part in node.body if isinstance(part, ast.FunctionDef)}
                if isinstance(node, ast.Attribute) and isinstance(node.ctx, ast.Store):
                    attributes.add(node.attr)
        self.assertEqual(attributes & methods, set())
        for module, (name, told) in CLASSES.items():
            node = [part for part in ast.parse(text_of(module + ".py")).body
                    if isinstance(part, ast.ClassDef) and part.name == name][0]
            self.assertLessEqual(told, {part.name for part in node.body if isinstance(part, ast.FunctionDef)})

    def test_names(self):
        for name, tree in self.trees():
            modulewide = own_names(tree)
            imported = [alias.name for node in tree.body if isinstance(node, ast.ImportFrom) for alias in node.names]
            self.assertEqual(len(set(modulewide + imported)), len(modulewide + imported), name)
            for bound in set(bound_names(tree)) - {"__init__"}:
                self.assertFalse(hasattr(builtins, bound) or bound in BARRED, (name, bound))
                self.assertFalse(bound.startswith("__"), (name, bound))
            for node in ast.walk(tree):
                if isinstance(node, ast.FunctionDef):
                    local = {part.id for part in ast.walk(node)
                             if isinstance(part, ast.Name) and isinstance(part.ctx, ast.Store)}
                    local |= {arg.arg for arg in node.args.args}
                    self.assertFalse(local & set(imported + modulewide), (name, node.name))

    def test_words(self):
        for name in files():
            for word in WORDS_BARRED:
                self.assertIsNone(re.search(r"\b" + word + r"\b", text_of(name)), (name, word))
            self.assertNotIn("_wall", text_of(name), name)

    def test_calls(self):
        own_methods = {part.name for _, other in self.trees() for node in ast.walk(other)
                       if isinstance(node, ast.ClassDef) for part in node.body if isinstance(part, ast.FunctionDef)}
        for name, tree in self.trees():
            known = set(own_names(tree)) | set(BUILTINS)
            known |= {alias.name for node in tree.body if isinstance(node, ast.ImportFrom) for alias in node.names}
            for node in ast.walk(tree):
                if isinstance(node, ast.Call) and isinstance(node.func, ast.Name):
                    self.assertIn(node.func.id, known | {"fault_of", "holds", "read", "answer_of"}, name)
                elif isinstance(node, ast.Call):
                    self.assertIn(node.func.attr, METHODS | own_methods, name)

    def test_module_level_is_plain(self):
        for name, tree in self.trees():
            for node in tree.body[1:]:
                self.assertIsInstance(node, (ast.ImportFrom, ast.FunctionDef, ast.ClassDef, ast.Assign), name)
                if isinstance(node, ast.Assign):
                    self.assertEqual(len(node.targets), 1)
                    self.assertIsInstance(node.targets[0], ast.Name)
                    self.assertFalse(any(isinstance(part, ast.Call) for part in ast.walk(node)))

    def test_interface_is_defined_in_its_files(self):
        for module, names in INTERFACE.items():
            self.assertLessEqual(names, set(own_names(ast.parse(text_of(module + ".py")))), module)
