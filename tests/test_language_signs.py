"""The rules L5 and L28 of LANGUAGE.md for operators, properties, strings, lengths and equality.

What runs behind a sign changes nothing, and calls nothing that it is handed or holds; neither does what it calls,
at any depth. Calls are followed by names: a method by its name in any class of the package. What a function makes
itself it may change (L5): of an object of a class, the attributes that it sets in the rows right behind the making.
"""

import ast
import builtins
import re
import textwrap
import unittest

from tests.test_language import trees

CHANGING = set("""add append appendleft clear discard extend insert pop popleft remove reverse setdefault sort
    update""".split())
# In-place signs may change their object; the package has none of them, nor __setitem__.
NO_SIGNS = ("__init__", "__enter__", "__exit__", "__call__", "__iter__")
# These set no attribute of an object that they made themselves, either (L28); what they call may do so.
STRICT = ("__eq__", "__repr__", "__str__", "__len__")
MAKERS = ("list", "dict", "set", "sorted")
LAZY = (ast.Yield, ast.YieldFrom, ast.GeneratorExp, ast.Lambda, ast.Await)
BARRED = (ast.Delete, ast.Global, ast.Nonlocal, ast.With, ast.AugAssign, ast.NamedExpr, ast.Import, ast.ImportFrom)
DISPLAYS = (ast.List, ast.ListComp, ast.Dict, ast.DictComp, ast.Set, ast.SetComp)


class Package:
    """The functions, methods and classes of some files, by their names."""

    def __init__(self, pairs):
        self.functions, self.classes, self.methods = {}, {}, {}
        for file, tree in pairs:
            for node in tree.body:
                if isinstance(node, ast.FunctionDef):
                    self.functions[file, node.name] = node
                if isinstance(node, ast.ClassDef):
                    self.classes[node.name] = node
                    for one in node.body:
                        if isinstance(one, ast.FunctionDef):
                            self.methods.setdefault(one.name, []).append((file, one))
            for node in tree.body:
                if isinstance(node, ast.ImportFrom):
                    for one in node.names:
                        self.functions[file, one.name] = (node.module, one.name)

    def function(self, file, name):
        """The file and the node of a function that is known in a file; None if it is none."""
        found = self.functions.get((file, name))
        if isinstance(found, tuple):
            return self.function(*found)
        return None if found is None else (file, found)

    def roots(self):
        """The operators, the methods of strings, lengths and equality, and the properties."""
        for name, rows in self.methods.items():
            for file, node in rows:
                decorators = [one.id for one in node.decorator_list if isinstance(one, ast.Name)]
                if "property" in decorators or (name.startswith("__") and name not in NO_SIGNS):
                    yield file, node

    def called(self, file, node):
        """The files and nodes of all that a function calls."""
        for one in ast.walk(node):
            if not isinstance(one, ast.Call):
                continue
            if isinstance(one.func, ast.Attribute):
                # Only errors call the __init__ of a base, which is Python's own.
                yield from [] if one.func.attr == "__init__" else self.methods.get(one.func.attr, [])
            elif not isinstance(one.func, ast.Name):
                continue
            elif one.func.id in self.classes:
                yield from self.made_by(one.func.id)
            elif one.func.id in ("str", "len", "repr", "bool"):
                yield from self.methods.get(f"__{one.func.id}__", [])
            elif self.function(file, one.func.id) is not None:
                yield self.function(file, one.func.id)

    def family(self, name):
        """The nodes of a class and of those above it."""
        node = self.classes.get(name)
        return [] if node is None else [node] + [one for base in node.bases for one in self.family(base.id)]

    def made_by(self, name):
        """What runs when an object of a class is made."""
        inits = self.methods.get("__init__", [])
        return [(file, node) for file, node in inits if any(node in one.body for one in self.family(name))]

    def reached(self, roots):
        """The roots and all that they call, at any depth."""
        found = list(roots)
        for file, node in found:
            for other in self.called(file, node):
                if other not in found:
                    found.append(other)
        return found

    def faults(self):
        """What the rules do not allow, over all that is reached from operators, properties and strings."""
        found = []
        for file, node in self.reached(self.roots()):
            found.extend(f"{file} line {line}: {node.name}: {what}" for line, what in self.faults_of(file, node))
        return found

    def faults_of(self, file, node):
        fresh = fresh_names(node)
        first = [] if node.name in STRICT else first_settings(node, self.classes)
        for one in ast.walk(node):
            if isinstance(one, LAZY + BARRED):
                yield one.lineno, one.__class__.__name__
            if isinstance(one, ast.FunctionDef) and one is not node:
                yield one.lineno, "a nested function"
            if isinstance(one, ast.Attribute) and not isinstance(one.ctx, ast.Load):
                is_own = node.name == "__init__" and ast.unparse(one.value) == "self"
                if not is_own and one not in first:
                    yield one.lineno, "an attribute is set"
            if isinstance(one, ast.Subscript) and not isinstance(one.ctx, ast.Load):
                if not (isinstance(one.value, ast.Name) and one.value.id in fresh):
                    yield one.lineno, "an item is set"
            if isinstance(one, ast.Call):
                yield from self.faults_of_call(file, node, one, fresh)

    def faults_of_call(self, file, node, call, fresh):
        if isinstance(call.func, ast.Attribute):
            name = call.func.attr
            is_builtin = any(hasattr(kind, name) for kind in (str, list, dict, tuple, set, int))
            if name not in self.methods and not is_builtin and not name.startswith("__init"):
                yield call.lineno, f"{name} is no method"
            if name in CHANGING and not (isinstance(call.func.value, ast.Name) and call.func.value.id in fresh):
                yield call.lineno, f"{name} of what was not created here"
        elif not isinstance(call.func, ast.Name):
            yield call.lineno, "a call of what was called or looked up"
        else:
            name = call.func.id
            is_known = name in self.classes or hasattr(builtins, name) or self.function(file, name) is not None
            if name in names_bound(node) or not is_known:
                yield call.lineno, f"{name} is handed or held"


def names_bound(node):
    """The parameters and the local variables of a function."""
    names = {one.arg for one in ast.walk(node) if isinstance(one, ast.arg)}
    return names | {one.id for one in ast.walk(node) if isinstance(one, ast.Name) and not isinstance(one.ctx, ast.Load)}


def fresh_names(node):
    """The local variables that are only ever assigned a new list, dict or set."""
    stored = [one.id for one in ast.walk(node) if isinstance(one, ast.Name) and isinstance(one.ctx, ast.Store)]
    made = []
    for one in ast.walk(node):
        if isinstance(one, ast.Assign) and len(one.targets) == 1 and isinstance(one.targets[0], ast.Name):
            value = one.value
            if isinstance(value, DISPLAYS) or (isinstance(value, ast.Call) and ast.unparse(value.func) in MAKERS):
                made.append(one.targets[0].id)
    parameters = {one.arg for one in ast.walk(node) if isinstance(one, ast.arg)}
    return {name for name in made if stored.count(name) == made.count(name)} - parameters


def first_settings(node, classes):
    """The attributes of a new object that a function sets in the rows right behind the one that makes it.

    Nothing else holds the object there; what is set later, or in a row that reads the object, is not among them.
    """
    found = []
    new = None
    for row in node.body:
        target = row.targets[0] if isinstance(row, ast.Assign) and len(row.targets) == 1 else None
        if isinstance(target, ast.Attribute) and ast.unparse(target.value) == new and new not in words_in(row.value):
            found.append(target)
        elif isinstance(target, ast.Name) and isinstance(row.value, ast.Call) and (
                ast.unparse(row.value.func) in classes):
            new = target.id
        else:
            new = None
    return found


def words_in(node):
    """The names that an expression reads."""
    return [one.id for one in ast.walk(node) if isinstance(one, ast.Name)]


def whole_package():
    return Package([("headerfold." + file.stem, tree) for file, tree in trees()])


def package_of(source):
    return Package([("headerfold.one", ast.parse(textwrap.dedent(source)))])


class Signs(unittest.TestCase):
    def test_what_runs_behind_signs_changes_nothing(self):
        self.assertEqual(whole_package().faults(), [])

    def test_every_sign_of_the_package_is_looked_at(self):
        package = whole_package()
        names = [node.name for _, node in package.roots()]
        for name in ("__str__", "__len__", "__eq__", "__add__", "__sub__", "__getitem__", "__contains__", "__bool__",
                     "codes", "is_plain", "weekday", "instant", "key_names", "all_headers", "undoable", "strays"):
            self.assertIn(name, names)
        self.assertEqual(names.count("__str__"), 2)
        self.assertEqual(names.count("__len__"), 6)
        self.assertEqual(names.count("__eq__"), 7)

    def test_what_the_string_of_a_header_calls(self):
        package = whole_package()
        roots = [(file, node) for file, node in package.methods["__str__"] if file == "headerfold.headers"]
        self.assertEqual(len(roots), 1)
        reached = package.reached(roots)
        names = [(file.removeprefix("headerfold."), node.name) for file, node in reached]
        for expected in (("headers", "folded"), ("laying", "laid_out"), ("encoded", "first_word"),
                         ("plain", "plain_pieces"), ("people", "people_pieces"), ("typed", "typed_pieces"),
                         ("moments", "moment_pieces"), ("texts", "joined"), ("codings", "payload_of")):
            self.assertIn(expected, names)
        self.assertEqual(names.count(("headers", "pieces")), 5)
        self.assertNotIn(("laying", "lines_of"), names)
        for _, node in reached:
            self.assertFalse(any(isinstance(one, LAZY) for one in ast.walk(node)), node.name)

    def test_methods_that_are_called_off_self_are_those_of_the_class(self):
        package = whole_package()
        for file, root in package.reached(package.roots()):
            for node in package.classes.values():
                if root in node.body:
                    known = {one.name for above in package.family(node.name) for one in above.body
                             if isinstance(one, ast.FunctionDef)}
                    for call in ast.walk(root):
                        if isinstance(call, ast.Call) and re.fullmatch(r"self\.\w+", ast.unparse(call.func)):
                            self.assertIn(call.func.attr, known, f"{file} {root.name}")


class TheCheckItself(unittest.TestCase):
    """The check finds what it is made for."""

    def faults(self, source):
        return package_of(source).faults()

    def test_a_generator_that_is_walked(self):
        source = """
            def rows(xs):
                yield from xs
            def joined(xs):
                return "".join(rows(xs))
            class Box:
                def __str__(self):
                    return str(self.told())
                def told(self):
                    return joined(self.xs)
            """
        self.assertEqual(self.faults(source), ["headerfold.one line 3: rows: YieldFrom"])

    def test_changes_and_calls_of_what_is_held(self):
        for row in ("self.n = 3", "self.n += 1", "self.xs[0] = 3", "self.xs.append(3)", "del self.xs[0]",
                    "xs[0] = 3", "xs.append(3)", "ys = self.xs; ys.append(3)", "ys = []; ys = xs; ys[0] = 3",
                    "made = self.made; made.n = 3", "made = xs; made.n = 3", "made = Box(); xs.n = 3",
                    "made = Box(); ys = [made]; made.n = 3", "made = Box(); made.n = made",
                    "made = list(xs); made.n = 3", "made = Box(); made = xs; made.n = 3", "made = Box(); made.n += 3",
                    "xs(3)", "self.step(3)", "self.xs[0](3)", "return (x for x in xs)"):
            source = f"""
                class Box:
                    def told(self, xs):
                        {row}
                    @property
                    def many(self):
                        return self.told([])
                """
            self.assertGreaterEqual(len(self.faults(source)), 1, row)

    def test_what_a_function_makes_itself(self):
        for rows, many in (
                ("made = Box(); made.n = 3", 0), ("made = Box(); made.n = 3; made.m = xs; return made", 0),
                ("made = Box(); self.told(made); made.n = 3", 1),
                ("made = Box(); made.n = 3; xs = [made]; made.m = 3", 1)):
            source = f"""
                class Box:
                    def told(self, xs):
                        {rows}
                    def __add__(self, other):
                        return self.told([])
                """
            self.assertEqual(len(self.faults(source)), many, rows)

    def test_strings_lengths_and_equalities_set_nothing_themselves(self):
        for name, many in (("__str__", 1), ("__repr__", 1), ("__len__", 1), ("__eq__", 1), ("__add__", 0)):
            source = f"""
                class Box:
                    def {name}(self):
                        made = Box()
                        made.n = 3
                        return made.told()
                """
            found = [row for row in self.faults(source) if row.endswith("an attribute is set")]
            self.assertEqual(len(found), many, name)

    def test_what_may_be(self):
        source = """
            class Box:
                def __init__(self, xs):
                    self.xs = xs
                def __len__(self):
                    return len(self.rows())
                def rows(self):
                    made = []
                    made.append(self.xs)
                    made[0] = 3
                    return Box(made).xs
            """
        self.assertEqual(self.faults(source), [])


if __name__ == "__main__":
    unittest.main()
