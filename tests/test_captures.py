"""The names that cases capture, in the files of the package (rule L6 Match of LANGUAGE.md).

A captured name is given by its cases alone, and stands in them alone.
"""

import ast
import pathlib
import unittest

import seedbed

FOLDER = pathlib.Path(seedbed.__file__).parent
INNER = (ast.FunctionDef, ast.Lambda)


def misused(text):
    """Return the (line, name) of each place of a text where a captured name must not stand, in ascending order."""
    found = set()
    for function in outer_functions(ast.parse(text)):
        cases = cases_by_name(function)
        for name in cases:
            found.update((line, name) for line in misuses(function, name, cases[name]))
    return sorted(found)


def outer_functions(tree):
    """Return the functions of a module and the methods of its classes, without those nested in functions."""
    classes = [node for node in tree.body if isinstance(node, ast.ClassDef)]
    rows = tree.body + [node for kind in classes for node in kind.body]
    return [node for node in rows if isinstance(node, ast.FunctionDef)]


def cases_by_name(function):
    """Return a dict from the captured names of a function to the cases that capture them."""
    found = {}
    for case in ast.walk(function):
        if isinstance(case, ast.match_case):
            for node in ast.walk(case.pattern):
                if is_capture(node) and node.name is not None:
                    found.setdefault(node.name, []).append(case)
    return found


def is_capture(node):
    return isinstance(node, (ast.MatchAs, ast.MatchStar))


def misuses(function, name, cases):
    """Return the lines of a function where a name that these cases capture must not stand."""
    own = [node for case in cases for node in ast.walk(case)]
    inner = [node for part in ast.walk(function) if isinstance(part, INNER) and part != function
             for node in ast.walk(part)]
    found = [node.lineno for node in ast.walk(function) if gives(node, name)]
    found += [node.lineno for node in ast.walk(function) if reads(node, name) and node not in own]
    found += [node.lineno for node in inner if reads(node, name)]
    for case in cases:
        behind = [node for row in case.body for node in ast.walk(row)]
        found += [node.lineno for node in behind if is_capture(node) and node.name == name]
    return found


def reads(node, name):
    return isinstance(node, ast.Name) and node.id == name and isinstance(node.ctx, ast.Load)


def gives(node, name):
    """Tell whether something else than a case gives a value to a name, or takes it away."""
    if isinstance(node, ast.Name):
        return node.id == name and not isinstance(node.ctx, ast.Load)
    if isinstance(node, ast.Nonlocal):
        return name in node.names
    if isinstance(node, ast.arg):
        return node.arg == name
    return isinstance(node, (ast.ExceptHandler, ast.FunctionDef)) and node.name == name


class Misused(unittest.TestCase):
    def check(self, rows, expected):
        self.assertEqual(misused("\n".join(rows) + "\n"), expected)

    def test_names_that_stand_in_their_own_cases(self):
        self.check([
            "def f(a):",
            "    match a:",
            "        case (1, n, *rest) if n > 0:",
            "            return [n] + rest",
            "        case [n] | (2, n):",
            "            return n",
            "        case _ as whole:",
            "            return whole",
            "def g(a):",
            "    n = a",
            "    return n",
        ], [])

    def test_a_name_that_is_assigned_and_read_behind_its_case(self):
        self.check([
            "def f(a):",
            "    match a:",
            "        case (1, n):",
            "            return n",
            "    m, n = a",
            "    return n",
        ], [(5, "n"), (6, "n")])

    def test_a_name_that_is_assigned_in_another_case_or_its_own(self):
        self.check([
            "class C:",
            "    def f(self, a):",
            "        match a:",
            "            case (1, n):",
            "                n += 1",
            "            case (2, m):",
            "                n = m",
            "                return n",
        ], [(5, "n"), (7, "n"), (8, "n")])

    def test_a_name_that_is_a_parameter_or_a_variable_of_a_loop(self):
        self.check([
            "def f(n, *m):",
            "    for k in [1]:",
            "        pass",
            "    match n:",
            "        case (k, n, *m):",
            "            return [w for w in m]",
            "        case (w, _):",
            "            return 1",
        ], [(1, "m"), (1, "n"), (2, "k"), (4, "n"), (6, "w")])

    def test_a_name_that_is_captured_again_inside_its_case(self):
        self.check([
            "def f(a):",
            "    match a:",
            "        case (1, n):",
            "            match n:",
            "                case (2, n):",
            "                    return n",
        ], [(5, "n")])

    def test_a_name_in_a_nested_function_or_lambda(self):
        self.check([
            "def f(a):",
            "    match a:",
            "        case (1, n, m, k):",
            "            def n():",
            "                nonlocal m",
            "            return lambda: k",
            "        case e:",
            "            try:",
            "                pass",
            "            except KeyError as e:",
            "                pass",
        ], [(4, "n"), (5, "m"), (6, "k"), (10, "e")])


class Package(unittest.TestCase):
    def test_no_file_misuses_a_captured_name(self):
        paths = sorted(FOLDER.rglob("*.py"))
        self.assertIn("audit.py", [path.name for path in paths])
        for path in paths:
            with self.subTest(file=path.name):
                self.assertEqual(misused(path.read_text()), [])


if __name__ == "__main__":
    unittest.main()
