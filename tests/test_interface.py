"""The interface: names, arguments, and the file in which each name stands."""

import ast
import inspect
import unittest
from importlib import import_module
from pathlib import Path

from rootparts.maps import Map

PACKAGE = Path(__file__).resolve().parent.parent / "rootparts"

FUNCTIONS = {
    "webs": [
        "is_web(value)", "is_lot(n, value)", "neighbours(web, place)", "piece_of(web, lot, place)", "pieces(web, lot)",
        "hangs(web, lot)", "with_tie(web, a, b)", "loose_ties(web)",
    ],
    "deals": [
        "is_deal(web, value)", "is_parts(web, deal, value)", "part_of(dealing, i)", "every_sizes(n, k)",
        "border(web, dealing)",
    ],
    "trees": [
        "first_state(web, deal)", "room_of(web, deal, state, i)", "find_parts(web, deal)", "find_tree(web, deal)",
        "is_tree(web, deal, value)", "leaves(tree)",
    ],
    "cuts": [
        "is_cut(web, value)", "is_way(web, a, b, value)", "ways_apart(web, a, b)", "parting_lot(web, a, b)",
        "find_paper(web, k)", "find_cut(web, k)", "is_paper(web, k, value)",
    ],
    "firmness": [
        "is_firm(web, k)", "firmness(web)", "bar_of(web, k, cut)", "find_bar(web, k)", "is_bar(web, k, value)",
    ],
    "orders": [
        "find_order(web, a, b)", "find_loose(web, a, b)", "is_order(web, a, b, value)", "is_loose(web, a, b, value)",
        "parts_by_order(order, size)",
    ],
    "weights": [
        "weight_of(weights, lot)", "weighted_size(weights, order, target)", "even_size(weights, order)",
        "every_cut_weight(weights, order)",
    ],
    "frees": [
        "find_free(web, sizes)", "find_table(web, sizes)", "is_free(web, sizes, value)", "is_table(web, sizes, value)",
        "served_roots(web, sizes)", "roots_of(dealing, k)",
    ],
    "moves": [
        "is_standing(web, roots, bounds, value)", "standings(web, roots, bounds)",
        "moves_of(web, roots, bounds, standing)", "find_row(web, roots, bounds, standing, other)",
        "find_shut(web, roots, bounds, standing, other)", "is_row(web, roots, bounds, standing, other, value)",
        "is_shut(web, roots, bounds, standing, other, value)",
    ],
    "fewest": [
        "ties_needed(web)", "find_mending(web)", "is_mending(web, value)", "find_bound(web)", "bound_tells(web, value)",
    ],
    "services": [
        "served_sizes(web, roots)", "find_service(web, roots)", "find_want(web, roots)", "is_service(web, roots, value)",
        "is_want(web, roots, value)", "service_by_order(order)",
    ],
    # map is the name of a builtin, which no argument may have (L15): arguments are passed by position.
    "maplogs": [
        "map_log(chart)", "first_map_fault(n, value)", "is_map_log(n, value)", "resumed_map(n, log)", "webs_of_log(n, log)",
    ],
    "papers": ["write_web(web, dealing)", "read_web(value)", "is_text(value)"],
}

CLASSES = {
    "errors": [
        "InvalidPlace(value)", "SamePlace(place)", "AlreadyTied(a, b)", "NotTied(a, b)", "AlreadyRoot(place)",
        "NotRoot(place)", "InvalidSizes(sizes)", "InvalidText(value)",
    ],
    "maps": ["Map(n)"],
}

METHODS = [
    "tie(self, a, b)", "untie(self, a, b)", "root(self, place)", "unroot(self, place)", "undo(self)", "web(self)",
    "roots(self)", "parts(self, sizes)", "firmness(self)", "is_split(self)", "__len__(self)", "__eq__(self, other)",
]


def defined(module, kind):
    tree = ast.parse((PACKAGE / (module + ".py")).read_text())
    return [node.name for node in tree.body if isinstance(node, kind)]


class Interface(unittest.TestCase):
    def check(self, table, kind):
        for module, rows in table.items():
            loaded = import_module("rootparts." + module)
            for row in rows:
                name = row.partition("(")[0]
                self.assertEqual(name + str(inspect.signature(getattr(loaded, name))), row)
                self.assertIn(name, defined(module, kind))

    def test_functions(self):
        self.check(FUNCTIONS, ast.FunctionDef)

    def test_classes(self):
        self.check(CLASSES, ast.ClassDef)
        self.assertIn("RootpartsError", defined("errors", ast.ClassDef))

    def test_methods_stand_in_the_class_itself(self):
        for row in METHODS:
            name = row.partition("(")[0]
            self.assertEqual(name + str(inspect.signature(vars(Map)[name])), row)


class Files(unittest.TestCase):
    """The rules on files and sizes that can be counted (L1, L2, L10, L14)."""

    def files(self):
        return [path for path in sorted(PACKAGE.rglob("*")) if "__pycache__" not in path.parts]

    def test_only_python_files(self):
        self.assertIn(PACKAGE / "__init__.py", self.files())
        for path in self.files():
            self.assertEqual(path.suffix, ".py", path)

    def test_lines_and_signs(self):
        for path in self.files():
            text = path.read_bytes().decode("ascii")
            self.assertTrue(all(sign == "\n" or " " <= sign <= "~" for sign in text), path)
            self.assertLessEqual(len(text.splitlines()), 399, path)
            self.assertLessEqual(max(map(len, text.splitlines())), 120, path)

    def test_functions_are_short(self):
        for path in self.files():
            for node in ast.walk(ast.parse(path.read_text())):
                if isinstance(node, ast.FunctionDef):
                    self.assertLessEqual(node.end_lineno - node.lineno + 1, 40, (path, node.name))

    def test_imports_come_from_the_package_and_name_the_file_of_the_name(self):
        for path in self.files():
            for node in ast.walk(ast.parse(path.read_text())):
                self.assertNotIsInstance(node, ast.Import, path)
                if isinstance(node, ast.ImportFrom) and node.module not in ("heapq", "math", "itertools", "collections"):
                    package, _, module = node.module.partition(".")
                    self.assertEqual((package, node.level), ("rootparts", 0), path)
                    names = defined(module, (ast.FunctionDef, ast.ClassDef))
                    self.assertTrue(all(alias.name in names or alias.name.isupper() for alias in node.names), path)
