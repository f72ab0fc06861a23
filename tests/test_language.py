"""The rules of LANGUAGE.md that can be looked up in the syntax of the package."""

import ast
import builtins
import os
import re
import unittest

FOLDER = os.path.join(os.path.dirname(os.path.dirname(os.path.abspath(__file__))), "surelyread")

BUILTINS = set("""len range enumerate zip min max sum abs sorted reversed int str bool list tuple dict
set isinstance ord repr any all divmod pow iter next Exception ValueError TypeError KeyError IndexError
LookupError ZeroDivisionError ArithmeticError OverflowError RuntimeError NotImplementedError""".split())

METHODS = set("""append clear copy count endswith extend find get index insert isalnum isalpha isdigit
islower isspace isupper items join keys ljust lower lstrip partition pop remove replace reverse rfind
rjust rpartition rsplit rstrip setdefault split splitlines startswith strip update upper values zfill
bit_length sort add discard""".split())

LIBRARY = {"heapq": ("heappush", "heappop", "heapify"), "collections": ("defaultdict",),
           "math": ("gcd", "isqrt", "comb"), "itertools": ("product", "combinations", "chain")}

UNUSED = set("""register mro elements open input law version_info id type vars dir eval exec compile
globals locals help exit quit sys os""".split())

INTERFACE = {
    "errors": """PageError Fault TooLarge BadRegion BadReading OutsideImage TooMany BadWords
        BadNumbers""",
    "pixels": "parse_image image_text pixel differing patched",
    "signs": "split",
    "grammars": "parse_grammar",
    "writing": "grammar_text",
    "strips": "machine machines is_strip",
    "readings": "fills to_integers from_integers regions leaves price text_of comes_first",
    "drawing": "draw cost obeys",
    "needs": "spots look_count needed effort",
    "best": "allowed best",
    "several": "first_readings",
    "certain": "margin least_with sure",
    "bounds": "all_bounds right certifies",
    "learned": "train distance",
    "gaps": "gap",
    "grammar": "Grammar",
    "counting": "how_many cost_counts place_of reading_at",
    "lexicon": "lexicon run accepts",
    "worded": "best_worded",
    "reader": "Reader",
    "books": "one_turn learn",
    "packed": "pack unpack"}

CLASSES = {
    ("grammar", "Grammar"): "text names regions leaves text_of draw price cost",
    ("reader", "Reader"): """patch fix forbid free undo image wishes read readings margin least_with sure
        margins bounds certifies how_many cost_counts place_of reading_at worded"""}


def text_of_file(name):
    with open(os.path.join(FOLDER, name + ".py"), encoding="utf-8") as file:
        return file.read()


NAMES = sorted(name[:-3] for name in os.listdir(FOLDER) if name.endswith(".py"))
TEXTS = {name: text_of_file(name) for name in NAMES}
TREES = {name: ast.parse(TEXTS[name]) for name in NAMES}
DEFINITIONS = (ast.FunctionDef, ast.ClassDef)


def nodes(*kinds):
    """(file, node) for each node of these kinds in the package."""
    return [(name, node) for name in NAMES for node in ast.walk(TREES[name])
            if isinstance(node, kinds)]


def top_names(name):
    found = []
    for node in TREES[name].body:
        if isinstance(node, DEFINITIONS):
            found.append(node.name)
        elif isinstance(node, ast.Assign):
            found.extend(target.id for target in node.targets)
        elif isinstance(node, ast.ImportFrom):
            found.extend(alias.name for alias in node.names)
    return found


class Files(unittest.TestCase):
    def test_the_folder(self):
        for name in os.listdir(FOLDER):
            if name != "__pycache__":
                self.assertRegex(name, r"^[a-z_]+\.py$")
        self.assertIn("__init__", NAMES)

    def test_characters_and_sizes(self):
        for name in NAMES:
            lines = TEXTS[name].split("\n")
            self.assertLessEqual(len(lines), 400, name)
            for number, line in enumerate(lines, start=1):
                self.assertRegex(line, r"\A[ -~]{0,120}\Z", f"{name} {number}")
        for name, node in nodes(ast.FunctionDef):
            self.assertLessEqual(node.end_lineno - node.lineno + 1, 40, f"{name} {node.name}")

    def test_the_interface_is_defined_where_it_is_listed(self):
        for name in INTERFACE:
            defined = [node.name for node in TREES[name].body if isinstance(node, DEFINITIONS)]
            for wanted in INTERFACE[name].split():
                self.assertIn(wanted, defined, name)

    def test_listed_methods_are_defined_in_the_class(self):
        for (name, wanted), listed in CLASSES.items():
            bodies = [node.body for node in TREES[name].body
                      if isinstance(node, ast.ClassDef) and node.name == wanted]
            methods = [part.name for part in bodies[0] if isinstance(part, ast.FunctionDef)]
            self.assertEqual([method for method in listed.split() if method not in methods], [])


class Imports(unittest.TestCase):
    def test_forms(self):
        self.assertEqual(nodes(ast.Import), [])
        for name, node in nodes(ast.ImportFrom):
            self.assertEqual(node.level, 0)
            for alias in node.names:
                self.assertIsNone(alias.asname)
                if node.module in LIBRARY:
                    self.assertIn(alias.name, LIBRARY[node.module], name)
                else:
                    self.assertRegex(node.module, r"^surelyread\.[a-z_]+$", name)

    def test_names_come_from_the_file_that_defines_them(self):
        for name, node in nodes(ast.ImportFrom):
            if node.module not in LIBRARY:
                tree = TREES[node.module.split(".")[1]]
                defined = [part.name for part in tree.body if isinstance(part, DEFINITIONS)]
                defined += [target.id for part in tree.body if isinstance(part, ast.Assign)
                            for target in part.targets]
                for alias in node.names:
                    self.assertIn(alias.name, defined, name)

    def test_no_two_files_import_from_each_other(self):
        left = {name: set() for name in NAMES}
        for name, node in nodes(ast.ImportFrom):
            if node.module not in LIBRARY:
                left[name].add(node.module.split(".")[1])
        while left:
            free = [name for name in left if not left[name] & set(left)]
            self.assertTrue(free, left)
            for name in free:
                del left[name]


class Names(unittest.TestCase):
    def test_one_binding_for_each_name(self):
        for name in NAMES:
            names = top_names(name)
            self.assertEqual(len(names), len(set(names)), name)

    def test_variables_have_names_of_their_own(self):
        for name, node in nodes(ast.FunctionDef):
            taken = [part.name for part in TREES[name].body if isinstance(part, ast.ClassDef)]
            taken += [alias.name for part in TREES[name].body if isinstance(part, ast.ImportFrom)
                      for alias in part.names]
            bound = [part.arg for part in ast.walk(node) if isinstance(part, ast.arg)]
            bound += [part.id for part in ast.walk(node)
                      if isinstance(part, ast.Name) and isinstance(part.ctx, ast.Store)]
            for variable in bound:
                self.assertNotIn(variable, taken, f"{name} {node.name}")
                self.assertNotIn(variable, dir(builtins), f"{name} {node.name}")
                self.assertNotIn(variable, UNUSED, f"{name} {node.name}")
                self.assertFalse(variable.startswith("__"), f"{name} {node.name}")

    def test_definitions_have_names_of_their_own(self):
        for name, node in nodes(*DEFINITIONS):
            self.assertNotIn(node.name, dir(builtins), name)
            self.assertNotIn(node.name, UNUSED, name)

    def test_no_name_is_a_method_and_an_attribute(self):
        methods = {part.name for _, node in nodes(ast.ClassDef) for part in node.body
                   if isinstance(part, ast.FunctionDef)}
        for name, node in nodes(ast.Attribute):
            if isinstance(node.ctx, ast.Store):
                self.assertNotIn(node.attr, methods, f"{name} {node.lineno}")

    def test_only_some_builtins_are_used(self):
        for name, node in nodes(ast.Name):
            if node.id in dir(builtins):
                self.assertIn(node.id, BUILTINS, f"{name} {node.lineno}")

    def test_only_some_methods_are_called(self):
        own = {part.name for _, node in nodes(ast.ClassDef) for part in node.body
               if isinstance(part, ast.FunctionDef)}
        for name, node in nodes(ast.Call):
            if isinstance(node.func, ast.Attribute):
                self.assertIn(node.func.attr, METHODS | own, f"{name} {node.lineno}")


class Values(unittest.TestCase):
    def test_strings(self):
        for name, node in nodes(ast.Constant):
            self.assertNotIsInstance(node.value, float, name)
            if isinstance(node.value, str):
                self.assertNotIn(chr(37), node.value, name)
        for name in NAMES:
            for escape in re.findall(r"\\.", TEXTS[name]):
                self.assertIn(escape, ("\\n", "\\t", "\\\\", "\\'", '\\"'), name)

    def test_set_comprehensions_stand_in_sorted_or_len(self):
        allowed = [node.args[0] for _, node in nodes(ast.Call)
                   if isinstance(node.func, ast.Name) and node.func.id in ("sorted", "len")]
        for name, node in nodes(ast.SetComp):
            self.assertIn(node, allowed, f"{name} {node.lineno}")

    def test_statements_and_signs_that_are_not_used(self):
        self.assertEqual(nodes(ast.Global, ast.AsyncFunctionDef, ast.Await, ast.Div), [])
        for name, node in nodes(*DEFINITIONS):
            for decorator in node.decorator_list:
                self.assertIn(ast.unparse(decorator), ("property", "staticmethod", "classmethod"), name)

    def test_errors_are_made_where_they_are_raised(self):
        for name, node in nodes(ast.Raise):
            self.assertIsInstance(node.exc, ast.Call, f"{name} {node.lineno}")
            self.assertIsInstance(node.exc.func, ast.Name, f"{name} {node.lineno}")


if __name__ == "__main__":
    unittest.main()
