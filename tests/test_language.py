"""Rules of the language of the package that can be seen in its files, and where the interface's names are defined."""

import ast
import builtins
import inspect
import os
import re
import unittest

import migraproof
from migraproof.deployment import Deployment
from support import PROPERTIES

FOLDER = os.path.dirname(migraproof.__file__)
# The words that rule L17 bars from the files, strings included, and those barred inside longer words as well.
BARRED = ("type", "typing", "typing_extensions", "enum", "Enum", "IntEnum", "StrEnum", "Flag", "IntFlag", "Generic",
          "Protocol", "ABC", "ABCMeta", "namedtuple", "NamedTuple", "TypedDict", "TYPE_CHECKING", "abstractmethod")
BARRED_INSIDE = ("dataclass", "overload", "contextmanager")
BUILTINS = ("len range enumerate zip min max sum abs sorted reversed int str bool list tuple dict set isinstance ord "
            "repr any all divmod ValueError super property iter").split()
# The methods of builtin values that rule L25 lists first, and those of sets that L24 allows.
METHODS = (
    "append clear copy count endswith extend find get index insert isalnum isalpha isdigit islower isspace isupper "
    "items join keys ljust lower lstrip partition pop remove replace reverse rfind rjust rpartition rsplit rstrip "
    "setdefault split splitlines startswith strip update upper values zfill bit_length add discard").split()
# What is iterated on the spot, rule L23, and the builtins that iterate.
ITERATED = ("range", "zip", "enumerate", "reversed", "items", "keys", "values", "each_candidate")
TAKING = ("list", "tuple", "dict", "sorted", "sum", "any", "all", "enumerate", "zip", "reversed")
LIBRARY = ("heapq", "math", "itertools", "collections")

# What the interface lists for each module that is there: names, and how they are called.
INTERFACE = {
    "texts": {"sample_texts": "(many, *, but=())", "spare_texts": "(many, *, but=())", "ascending": "(texts)"},
    "records": {"free_texts": "(record, constants)", "renamed": "(record, pairs)",
                "exchanged": "(record, first, second)", "canonical": "(record, constants)",
                "renaming": "(first, second, constants)"},
    "trees": {"texts_of": "(tree)", "size": "(tree)", "depth": "(tree)", "tree_renamed": "(tree, pairs)"},
    "conditions": {"holds": "(tables, condition, record)", "cell_of": "(tables, expression, record)"},
    "schemas": {"check_condition": "(tables, condition)", "check_schema": "(schema)", "constants_of": "(schema)",
                "has_form": "(schema, record)", "has_shape": "(schema, record)", "fits": "(schema, record)",
                "is_valid": "(schema, record)", "what_is_wrong": "(schema, record)"},
    "counting": {"many_candidates": "(schema, many)", "candidate_at": "(schema, constants, number)",
                 "number_of": "(schema, constants, record)"},
    "cases": {"each_candidate": "(schema, constants)", "cases": "(schema, constants)",
              "fixture": "(source, target, *, own=())"},
    "describing": {"apart": "(schema, first, second, constants)", "description": "(schema, record, constants)",
                   "condition_of": "(schema, constants, numbers)"},
    "polynomials": {"value_at": "(polynomial, n)", "added": "(first, second)", "multiplied": "(first, second)",
                    "falling": "(start, many)", "signs": "(polynomial)", "compare": "(first, second)"},
    "capacity": {"counts": "(schema, constants)", "from_counts": "(numbers, many)", "capacity": "(schema)",
                 "records_over": "(schema, texts)", "excess": "(source, target)"},
    "scripts": {"check_script": "(source, target, script)", "applied": "(source, target, script, record)",
                "script_texts": "(script)"},
    "migrations": {"compiled": "(source, target, script)", "from_results": "(source, target, results, *, own=())",
                   "identity": "(schema)", "reduced": "(migration)", "first_use": "(migration, text)",
                   "examples": "(migration)", "result": "(migration, record)", "migrated": "(migration, database)"},
    "composing": {"followed_by": "(first, second)"},
    "scripting": {"script_of": "(migration)"},
    "recovery": {"recover": "(migration, query)", "recover_record": "(migration)",
                 "is_collision": "(migration, query, first, second)"},
    "analysis": {"compare_migrations": "(first, second)", "analyze": "(migration)", "is_lossless": "(migration)",
                 "inverse": "(migration)"},
    "detecting": {"undetected": "(source, target, records, *, own=())"},
    "repair": {"spare_needed": "(draft)", "kept": "(draft)", "repair": "(draft)", "equivalence": "(source, target)"},
    "fibres": {"hidden_texts": "(migration)", "groups": "(migration)", "fibre": "(migration, number)",
               "crowded": "(migration, columns, values)", "archive_size": "(migration)"},
    "archives": {"text_rows": "(texts, columns, many)", "many_text_rows": "(length, columns, many)",
                 "archive": "(migration)"},
    "common": {"known_positions": "(first, second)", "parts": "(first, second)", "common_part": "(first, second)"},
    "chains": {"joining_chain": "(first, second, record, other)"},
    "tokens": {"tokens_of": "(source)"},
    "reader": {"read_schema": "(source)", "read_condition": "(source)", "read_expression": "(source)",
               "read_script": "(source)"},
    "printer": {"show_tree": "(tree)", "show_schema": "(schema)", "show_script": "(script)"},
    "deployment": {"Deployment": "(schema)"},
    "journal": {"replayed": "(schema, log)"},
}
# What the interface lists for the class of deployments: its methods, and how they are called, and its properties.
METHODS_OF_DEPLOYMENTS = {
    "__init__": "(self, schema)", "put": "(self, key, record)", "drop": "(self, key)",
    "migrate": "(self, target, script)", "roll_back": "(self)", "commit": "(self)",
    "ask": "(self, target, script, *, version=0)", "execute": "(self, command)", "__len__": "(self)",
    "__contains__": "(self, key)", "__iter__": "(self)"}


def sources():
    for name in sorted(os.listdir(FOLDER)):
        if name.endswith(".py"):
            with open(os.path.join(FOLDER, name), encoding="utf-8", newline="") as file:
                yield name, file.read()


def trees():
    for name, source in sources():
        yield name, ast.parse(source)


def without_docstrings(tree):
    for node in ast.walk(tree):
        if isinstance(node, (ast.Module, ast.ClassDef, ast.FunctionDef)) and ast.get_docstring(node) is not None:
            node.body = node.body[1:] or [ast.Pass()]
    return ast.unparse(tree)


def defined_in(tree):
    return {node.name for node in tree.body if isinstance(node, (ast.FunctionDef, ast.ClassDef))} | {
        target.id for node in tree.body if isinstance(node, ast.Assign) for target in node.targets}


def bound_names(tree):
    for node in ast.walk(tree):
        if isinstance(node, ast.Name) and isinstance(node.ctx, ast.Store):
            yield node.id
        elif isinstance(node, ast.arg):
            yield node.arg
        elif isinstance(node, (ast.FunctionDef, ast.ClassDef)):
            yield node.name


class Language(unittest.TestCase):
    def test_the_folder_contains_python_files_only(self):
        for name in os.listdir(FOLDER):
            if name != "__pycache__":
                self.assertRegex(name, r"\A(__init__|[a-z][a-z0-9_]*)\.py\Z")

    def test_sizes_and_characters(self):
        for name, source in sources():
            self.assertNotRegex(source, r"[^ -~\n]", name)
            lines = source.split("\n")
            self.assertLessEqual(len(lines), 399, name)
            self.assertLessEqual(max(map(len, lines)), 120, name)
            self.assertFalse([line for line in lines if line != line.rstrip()], name)
        for name, tree in trees():
            for node in ast.walk(tree):
                if isinstance(node, ast.FunctionDef):
                    self.assertLessEqual(node.end_lineno - node.lineno + 1, 40, f"{name}: {node.name}")

    def test_barred_words(self):
        for name, tree in trees():
            code = without_docstrings(tree)
            for word in BARRED:
                self.assertIsNone(re.search(rf"\b{word}\b", code), f"{name}: {word}")
            for word in BARRED_INSIDE:
                self.assertNotIn(word, code, name)

    def test_strings(self):
        for name, tree in trees():
            for node in ast.walk(ast.parse(without_docstrings(tree))):
                if isinstance(node, ast.Constant) and isinstance(node.value, str):
                    self.assertNotIn("%", node.value, name)
                    self.assertNotIn("__", node.value, name)
                self.assertNotIsInstance(getattr(node, "value", None), (float, complex), name)

    def test_imports(self):
        bound = {name: defined_in(tree) for name, tree in trees()}
        for name, tree in trees():
            for node in ast.walk(tree):
                self.assertNotIsInstance(node, ast.Import, name)
                if isinstance(node, ast.ImportFrom):
                    self.assertIn(node, tree.body, name)
                    self.assertEqual(node.level, 0, name)
                    package, _, module = node.module.partition(".")
                    if package not in LIBRARY:
                        self.assertEqual(package, "migraproof", name)
                        for alias in node.names:
                            self.assertIn(alias.name, bound[f"{module}.py"], f"{name}: {alias.name}")

    def test_no_two_files_import_from_each_other(self):
        behind = {name: {f"{node.module.partition('.')[2]}.py" for node in tree.body
                         if isinstance(node, ast.ImportFrom)} for name, tree in trees()}
        left = dict(behind)
        while left:
            free = [name for name in left if not any(other in left for other in left[name])]
            self.assertTrue(free, f"in a circle: {sorted(left)}")
            left = {name: others for name, others in left.items() if name not in free}

    def test_statements(self):
        barred = (ast.AsyncFunctionDef, ast.Global, ast.Div, ast.Await, ast.TryStar, ast.AnnAssign)
        for name, tree in trees():
            for node in ast.walk(tree):
                self.assertNotIsInstance(node, barred, name)
            for node in tree.body:
                self.assertIsInstance(node, (ast.Expr, ast.ImportFrom, ast.FunctionDef, ast.ClassDef, ast.Assign), name)

    def test_only_the_listed_builtins_are_used_and_no_builtin_gets_another_meaning(self):
        for name, tree in trees():
            for bound in bound_names(tree):
                self.assertFalse(bound in vars(builtins), f"{name}: {bound}")
            for node in ast.walk(tree):
                if isinstance(node, ast.Name) and isinstance(node.ctx, ast.Load) and node.id in vars(builtins):
                    self.assertIn(node.id, BUILTINS, name)

    def test_no_name_of_an_import_or_a_class_is_bound_again(self):
        for file, tree in trees():
            bound = list(bound_names(tree))
            for node in tree.body:
                if isinstance(node, ast.ImportFrom):
                    for alias in node.names:
                        self.assertNotIn(alias.name, bound, file)
                elif isinstance(node, ast.ClassDef):
                    self.assertEqual(bound.count(node.name), 1, f"{file}: {node.name}")

    def test_only_the_listed_methods_and_own_ones_are_called(self):
        own = {node.name for _, tree in trees() for node in ast.walk(tree) if isinstance(node, ast.FunctionDef)}
        for name, tree in trees():
            for node in ast.walk(tree):
                if isinstance(node, ast.Call) and isinstance(node.func, ast.Attribute):
                    self.assertIn(node.func.attr, {*METHODS, *own}, name)

    def test_what_is_iterated_at_once(self):
        for name, tree in trees():
            at_once = set()
            for node in ast.walk(tree):
                if isinstance(node, (ast.For, ast.comprehension)):
                    at_once.add(node.iter)
                elif isinstance(node, ast.Call) and isinstance(node.func, ast.Name) and node.func.id in TAKING:
                    at_once.update(node.args)
            for node in ast.walk(tree):
                if isinstance(node, ast.Call):
                    called = node.func.attr if isinstance(node.func, ast.Attribute) else getattr(node.func, "id", None)
                    if called in ITERATED:
                        self.assertIn(node, at_once, f"{name}: {ast.unparse(node)}")

    def test_no_set_is_iterated(self):
        for name, tree in trees():
            for node in ast.walk(tree):
                if isinstance(node, (ast.For, ast.comprehension)):
                    self.assertNotIsInstance(node.iter, (ast.Set, ast.SetComp), name)


    def test_what_the_class_that_is_measured_and_iterated_over_rules_out(self):
        found = [node for _, tree in trees() for node in ast.walk(tree)]
        for node in found:
            self.assertNotIsInstance(node, ast.Try)
            if isinstance(node, ast.FunctionDef) and node.name in ("__len__", "__iter__"):
                word = node.name.strip("_")
                self.assertRegex(ast.unparse(node.body[-1]), rf"\Areturn {word}\(self\.\w+\)\Z")
                self.assertEqual(len(node.body), 1)
            if isinstance(node, ast.ImportFrom):
                self.assertNotIn(node.module, ("itertools", "heapq"))
            if isinstance(node, ast.Call):
                called = node.func.attr if isinstance(node.func, ast.Attribute) else getattr(node.func, "id", None)
                self.assertNotEqual(called, "sort")
                if called == "sorted":
                    self.assertNotIsInstance(node.args[0], ast.GeneratorExp)

    def test_properties_change_nothing_and_their_names_mean_nothing_else(self):
        found = [node for _, tree in trees() for node in ast.walk(tree)]
        names = []
        for node in found:
            if isinstance(node, ast.FunctionDef) and node.decorator_list:
                self.assertEqual([ast.unparse(each) for each in node.decorator_list], ["property"])
                self.assertEqual([type(each) for each in node.body], [ast.Expr, ast.Return])
                names.append(node.name)
        self.assertEqual(sorted(names), sorted(PROPERTIES))
        assigned = [node.attr for node in found if isinstance(node, ast.Attribute) and isinstance(node.ctx, ast.Store)]
        functions = [node.name for node in found if isinstance(node, ast.FunctionDef)]
        for name in names:
            self.assertNotIn(name, assigned)
            self.assertEqual(functions.count(name), 1)

    def test_no_name_is_a_method_and_an_attribute(self):
        found = [node for _, tree in trees() for node in ast.walk(tree)]
        assigned = {node.attr for node in found if isinstance(node, ast.Attribute) and isinstance(node.ctx, ast.Store)}
        functions = {node.name for node in found if isinstance(node, ast.FunctionDef)}
        for node in found:
            if isinstance(node, ast.ClassDef):
                methods = [each.name for each in node.body if isinstance(each, ast.FunctionDef)]
                self.assertEqual(assigned & set(methods), set())
                self.assertEqual(len(set(methods)), len(methods))
            if isinstance(node, ast.Attribute) and isinstance(node.value, ast.Name) and node.value.id == "self":
                self.assertIn(node.attr, {*assigned, *functions})


class Interface(unittest.TestCase):
    def test_the_class_of_deployments_defines_what_is_listed_for_it(self):
        own = vars(Deployment)
        for name, called in METHODS_OF_DEPLOYMENTS.items():
            self.assertEqual(str(inspect.signature(own[name])), called)
        for name in PROPERTIES:
            self.assertIsInstance(own[name], property)
        self.assertEqual(Deployment.__bases__, (object,))

    def test_each_file_is_listed(self):
        files = {name[:-3] for name, _ in sources()}
        self.assertEqual(files, {"__init__", "errors", *INTERFACE})

    def test_each_listed_function_is_defined_in_its_own_file(self):
        found = dict(trees())
        for module, functions in INTERFACE.items():
            for name, called in functions.items():
                with self.subTest(module=module, name=name):
                    loaded = __import__(f"migraproof.{module}", fromlist=[name])
                    self.assertIn(name, defined_in(found[f"{module}.py"]))
                    self.assertEqual(str(inspect.signature(getattr(loaded, name))), called)


if __name__ == "__main__":
    unittest.main()
