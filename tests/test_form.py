"""Tests of the form of the package: its files, names, sizes, imports and builtins."""

import ast
import builtins
import pathlib
import re
import unittest

PACKAGE = pathlib.Path(__file__).resolve().parent.parent / "onceonly"
FILES = sorted(PACKAGE.rglob("*.py"))

# The functions of each file, and the names of their arguments.
INTERFACE = {
    "systems": {"reachable_services": "system"},
    "differences": {
        "difference": "system service other", "difference_schedule": "system service other", "act_times": "system"},
    "windows": {
        "least_windows": "system", "deciding_messages": "system", "double_act": "system windows",
        "memory_needs": "system windows gap"},
    "certificates": {"difference_table": "system", "check_certificate": "system windows table"},
    "reuse": {"least_reuse_time": "system windows", "reuse_conflict": "system windows"},
    "logs": {
        "explanations": "system log", "lost_messages": "system windows log", "explain_log": "system windows log"},
    "planning": {"drop_effects": "system", "fit_windows": "system limits"},
    "simulator": {"simulate": "system windows times schedule", "count_acts": "system windows times schedule"},
    "scripts": {"run_script": "system windows source", "trace_script": "system windows source"},
    "notation": {
        "format_system": "system windows", "parse_system": "text", "format_schedule": "schedule",
        "parse_schedule": "text"},
    "codec": {
        "pack_bytes": "values", "unpack_bytes": "data", "encode_system": "system windows", "decode_system": "data",
        "encode_schedule": "system requests schedule", "decode_schedule": "system data"},
}

TIMELINE = {
    "undo": "self", "redo": "self", "is_busy": "self", "history": "self", "save": "self name", "restore": "self name",
    "checkpoints": "self", "apply_all": "self operations",
}

# The methods of each class, and the names of their arguments.
CLASSES = {
    ("runner", "Runner"): dict(TIMELINE, **{
        "__init__": "self system windows", "add_request": "self time", "deliver": "self message delay",
        "step": "self", "lose": "self message", "run_to": "self time", "current_time": "self", "all_events": "self",
        "act_counts": "self", "remembering": "self", "coming": "self", "schedule": "self"}),
    ("editor", "Editor"): dict(TIMELINE, **{
        "__init__": "self system", "add_call": "self call", "remove_call": "self index",
        "set_offsets": "self index offsets", "set_delays": "self index least most", "add_service": "self",
        "remove_service": "self service", "current_system": "self", "window_history": "self"}),
}

LIBRARY = {
    "heapq": {"heappush", "heappop", "heapify", "heapreplace", "heappushpop"},
    "math": {"gcd", "lcm", "isqrt", "comb", "perm", "factorial"},
    "itertools": {
        "product", "combinations", "permutations", "chain", "accumulate", "pairwise", "islice", "zip_longest"},
    "collections": {"defaultdict"},
    "__future__": {"annotations"},
}

BUILTINS = set("""
    len range enumerate zip min max sum abs sorted reversed int str bool bytes list tuple dict set frozenset isinstance
    ord repr any all divmod pow getattr hasattr setattr iter next map super property staticmethod classmethod object
    Exception ValueError TypeError KeyError IndexError LookupError ZeroDivisionError ArithmeticError OverflowError
    RuntimeError NotImplementedError AttributeError StopIteration NotImplemented
""".split())

TOP_LEVEL = (ast.Import, ast.ImportFrom, ast.FunctionDef, ast.ClassDef, ast.Assign, ast.Expr)


def tree_of(path):
    return ast.parse(path.read_text(encoding="ascii"))


def defined_names(tree):
    return [node.name for node in tree.body if isinstance(node, (ast.FunctionDef, ast.ClassDef))]


def argument_names(function):
    return " ".join(argument.arg for argument in function.args.args)


def bound_names(tree):
    names = defined_names(tree)
    for node in tree.body:
        if isinstance(node, ast.Assign):
            names += [target.id for target in node.targets]
    return names


class FilesTest(unittest.TestCase):
    def test_nothing_but_plain_files(self):
        self.assertIn(PACKAGE / "__init__.py", FILES)
        for path in PACKAGE.rglob("*"):
            if "__pycache__" not in path.parts:
                self.assertTrue(re.fullmatch(r"[a-z0-9_]+\.py", path.name), path)

    def test_sizes_and_characters(self):
        for path in FILES:
            text = path.read_text(encoding="ascii")
            lines = text.split("\n")
            self.assertLessEqual(len(lines), 399, path)
            self.assertLessEqual(max(len(line) for line in lines), 120, path)
            self.assertTrue(all(letter == "\n" or " " <= letter <= "~" for letter in text), path)

    def test_length_of_functions(self):
        for path in FILES:
            for node in ast.walk(tree_of(path)):
                if isinstance(node, ast.FunctionDef):
                    self.assertLessEqual(node.end_lineno - node.lineno + 1, 40, (path, node.name))

    def test_top_level(self):
        for path in FILES:
            tree = tree_of(path)
            for node in tree.body:
                self.assertIsInstance(node, TOP_LEVEL, path)
            names = bound_names(tree)
            self.assertEqual(len(names), len(set(names)), path)


class NamesTest(unittest.TestCase):
    def test_imports_name_the_file_that_defines_the_name(self):
        for path in FILES:
            for node in ast.walk(tree_of(path)):
                self.assertNotIsInstance(node, ast.Import, path)
                if isinstance(node, ast.ImportFrom):
                    names = {alias.name for alias in node.names}
                    self.assertEqual((node.level, {alias.asname for alias in node.names}), (0, {None}), path)
                    if node.module in LIBRARY:
                        self.assertLessEqual(names, LIBRARY[node.module], path)
                    else:
                        folder, *parts = node.module.split(".")
                        self.assertEqual(folder, "onceonly", path)
                        source = PACKAGE.joinpath(*parts).with_suffix(".py")
                        self.assertLessEqual(names, set(bound_names(tree_of(source))), path)

    def test_builtins(self):
        barred = set(vars(builtins)) - BUILTINS
        for path in FILES:
            for node in ast.walk(tree_of(path)):
                if isinstance(node, ast.Name):
                    self.assertNotIn(node.id, barred, path)
                    if isinstance(node.ctx, ast.Store):
                        self.assertNotIn(node.id, BUILTINS, path)

    def test_local_names(self):
        for path in FILES:
            tree = tree_of(path)
            taken = {alias.name for node in ast.walk(tree) if isinstance(node, ast.ImportFrom) for alias in node.names}
            taken |= {node.name for node in tree.body if isinstance(node, ast.ClassDef)}
            for node in ast.walk(tree):
                if isinstance(node, ast.Name) and isinstance(node.ctx, ast.Store):
                    self.assertNotIn(node.id, taken, path)
                if isinstance(node, ast.arg):
                    self.assertNotIn(node.arg, taken | set(vars(builtins)), path)

    def test_no_two_files_import_from_each_other(self):
        imported = {}
        for path in FILES:
            modules = [node.module for node in ast.walk(tree_of(path)) if isinstance(node, ast.ImportFrom)]
            imported[path.stem] = {module.split(".")[-1] for module in modules}
        while imported:
            free = [name for name in imported if not imported[name] & set(imported)]
            self.assertTrue(free, imported)
            imported = {name: imported[name] for name in imported if name not in free}

    def test_interface_is_defined_in_its_files(self):
        for module, functions in INTERFACE.items():
            found = {}
            for node in tree_of(PACKAGE / (module + ".py")).body:
                if isinstance(node, ast.FunctionDef):
                    found[node.name] = argument_names(node)
            for name, arguments in functions.items():
                self.assertEqual(found.get(name), arguments, name)

    def test_methods_are_defined_in_their_classes(self):
        for (module, name), methods in CLASSES.items():
            [found] = [node for node in tree_of(PACKAGE / (module + ".py")).body
                       if isinstance(node, ast.ClassDef) and node.name == name]
            defined = {node.name: argument_names(node) for node in found.body if isinstance(node, ast.FunctionDef)}
            for method, arguments in methods.items():
                self.assertEqual(defined.get(method), arguments, method)


if __name__ == "__main__":
    unittest.main()
