"""The form of the package: sizes, signs, names, and which file draws from which."""

import ast
import builtins
import os
import unittest

FOLDER = os.path.join(os.path.dirname(os.path.dirname(os.path.abspath(__file__))), "eighthturns")
ORDER = ("errors", "rays", "tables", "deeds", "circuits", "made", "states", "readings", "counted", "rounds", "marks",
         "fewest", "rungs", "fills", "helpers", "rowcounts", "told", "judge",
         "texts", "board", "desk")
LIBRARY = {"math": ("gcd", "isqrt", "comb")}
BUILTINS = """len range enumerate zip min max sum abs sorted reversed int str bool list tuple dict set
isinstance ord repr any all divmod LookupError ValueError""".split()
METHODS = """append clear copy count endswith extend find get index insert isalnum isalpha isdigit islower
isspace isupper items join keys ljust lower lstrip partition pop remove replace reverse rfind rjust rpartition
rsplit rstrip setdefault split splitlines startswith strip update upper values zfill bit_length isascii""".split()
OWN_METHODS = "circuit_now circuit_behind do undo redo behind eighths_now like_at".split()
OWN_ERRORS = "NoPlace NoWire NoGate NoEdit NothingDone".split()
NOT_WORDS = """type typing enum Enum Flag Generic Protocol ABC namedtuple dataclass overload global async
register mro elements open input law chr exec eval""".split()


def package_files():
    """The pairs (name, text) of all files of the package."""
    found = []
    for name in sorted(os.listdir(FOLDER)):
        if name != "__pycache__":
            with open(os.path.join(FOLDER, name), encoding="utf-8") as file:
                found.append((name, file.read()))
    return found


def nodes_of(text, *kinds):
    return [node for node in ast.walk(ast.parse(text)) if isinstance(node, kinds)]


def bound_names(text):
    """All names of parameters, variables, functions and classes."""
    names = [node.arg for node in nodes_of(text, ast.arg)]
    names += [node.id for node in nodes_of(text, ast.Name) if not isinstance(node.ctx, ast.Load)]
    return names + [node.name for node in nodes_of(text, ast.FunctionDef, ast.ClassDef)]


def imported(text):
    return [(node.module, alias.name) for node in nodes_of(text, ast.ImportFrom) for alias in node.names]


class Form(unittest.TestCase):
    def test_files(self):
        for name, text in package_files():
            self.assertRegex(name, "^[a-z_]+[.]py$")
            self.assertTrue(len(text.splitlines()) <= 399, name)
            self.assertTrue(text.endswith("\n"))
            self.assertFalse([sign for sign in text if sign != "\n" and not " " <= sign <= "~"], name)
            self.assertFalse([line for line in text.splitlines() if len(line) > 120], name)

    def test_functions_are_small(self):
        for name, text in package_files():
            for node in nodes_of(text, ast.FunctionDef):
                self.assertTrue(node.end_lineno - node.lineno < 40, (name, node.name))
                self.assertFalse(node.decorator_list)

    def test_each_function_and_class_says_what_it_is(self):
        for name, text in package_files():
            for node in nodes_of(text, ast.FunctionDef, ast.ClassDef, ast.Module):
                if not getattr(node, "name", "").startswith("__"):
                    self.assertTrue(ast.get_docstring(node), (name, getattr(node, "name", "")))

    def test_imports_name_the_very_file(self):
        defined = {name[:-3]: text for name, text in package_files()}
        for name, text in package_files():
            self.assertFalse(nodes_of(text, ast.Import))
            for module, word in imported(text):
                package, _, file = module.partition(".")
                if package in LIBRARY:
                    self.assertIn(word, LIBRARY[package])
                    continue
                self.assertEqual(package, "eighthturns")
                tree = ast.parse(defined[file]).body
                own = [node.name for node in tree if isinstance(node, (ast.FunctionDef, ast.ClassDef))]
                own += [node.targets[0].id for node in tree if isinstance(node, ast.Assign)]
                self.assertIn(word, own, (name, module))

    def draws_from(self, name, texts):
        """The files that this one draws from, also by others."""
        found = []
        ahead = [name]
        while ahead:
            for module, _ in imported(texts[ahead.pop()]):
                file = module.partition(".")[2]
                if module not in LIBRARY and file not in found:
                    found.append(file)
                    ahead.append(file)
        return found

    def test_a_file_draws_from_those_ahead_alone(self):
        texts = {name[:-3]: text for name, text in package_files()}
        for name in texts:
            self.assertNotIn(name, self.draws_from(name, texts))
        for at, name in enumerate(ORDER):
            listed = [file for file in self.draws_from(name, texts) if file in ORDER]
            self.assertTrue(set(listed) <= set(ORDER[:at]), name)

    def test_all_that_is_imported_is_used(self):
        for name, text in package_files():
            used = {node.id for node in nodes_of(text, ast.Name)}
            for _, word in imported(text):
                self.assertIn(word, used, name)

    def test_what_is_drawn_from_the_library_is_only_called(self):
        for name, text in package_files():
            drawn = [word for module, word in imported(text) if module in LIBRARY]
            used = [node.id for node in nodes_of(text, ast.Name) if node.id in drawn]
            calls = nodes_of(text, ast.Call)
            called = [node.func.id for node in calls if isinstance(node.func, ast.Name) and node.func.id in drawn]
            self.assertEqual(sorted(used), sorted(called), name)

    def test_names(self):
        for name, text in package_files():
            taken = dir(builtins) + [word for _, word in imported(text)]
            for bound in bound_names(text):
                self.assertNotIn(bound, taken, name)
                self.assertNotIn(bound, NOT_WORDS, name)

    def test_builtins_and_methods(self):
        for name, text in package_files():
            for node in nodes_of(text, ast.Name):
                if node.id in dir(builtins):
                    self.assertIn(node.id, BUILTINS, name)
            for node in nodes_of(text, ast.Call):
                if isinstance(node.func, ast.Attribute):
                    self.assertIn(node.func.attr, METHODS + OWN_METHODS, name)

    def test_signs_that_are_not_used(self):
        kinds = (ast.GeneratorExp, ast.Yield, ast.Div, ast.Global, ast.AsyncFunctionDef, ast.Pow, ast.Set,
                 ast.JoinedStr, ast.Lambda, ast.Starred, ast.NamedExpr)
        for name, text in package_files():
            self.assertFalse(nodes_of(text, *kinds), name)
            for node in nodes_of(text, ast.Constant):
                self.assertNotIsInstance(node.value, float)
                self.assertFalse(isinstance(node.value, str) and "%" in node.value)
            for node in nodes_of(text, ast.Constant, ast.Name, ast.Attribute):
                word = getattr(node, "value", getattr(node, "id", ""))
                self.assertFalse(isinstance(word, str) and word in NOT_WORDS)

    def test_own_errors_alone_are_caught(self):
        for name, text in package_files():
            for node in nodes_of(text, ast.Try):
                self.assertEqual(name, "desk.py")
                self.assertFalse(node.orelse or node.finalbody)
                self.assertEqual(sorted(own.type.id for own in node.handlers), sorted(OWN_ERRORS))

    def test_module_level(self):
        kinds = (ast.FunctionDef, ast.ClassDef, ast.ImportFrom, ast.Assign, ast.Expr)
        for name, text in package_files():
            for node in ast.parse(text).body:
                self.assertIsInstance(node, kinds, name)
                self.assertTrue(not isinstance(node, ast.Expr) or isinstance(node.value, ast.Constant))


if __name__ == "__main__":
    unittest.main()
