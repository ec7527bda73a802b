"""Printed forms [285], [286]."""

import random
import unittest

from migraproof.describing import condition_of
from migraproof.migrations import compiled
from migraproof.printer import show_schema, show_script, show_tree
from migraproof.reader import read_condition, read_expression, read_schema, read_script
from migraproof.schemas import check_schema
from migraproof.scripting import script_of
from samples import (FREE_PAIR, MIDDLE, MIXED, ONE, OPTIONAL, PAIR, SPLIT, TAGGED, random_condition, random_expression,
                     random_script, text, values)

A, B = ("column", "t", "a"), ("column", "t", "b")
P, Q, R, S = [("=", A, ("cell", name)) for name in "pqrs"]
TRUE, FALSE = ("true",), ("false",)
# Every character that a text may have.
CHARACTERS = "".join(chr(code) for code in range(32, 127) if chr(code) not in '"%')
SCHEMAS = (ONE, PAIR, FREE_PAIR, MIXED, OPTIONAL, MIDDLE, TAGGED, SPLIT)


# Conditions that never stand in parentheses, and their printed forms.
SINGLE = ((TRUE, "true"), (("exists", "u"), "exists u"), (P, 't.a = "p"'), (("not", TRUE), "not true"))


def joined(word, *parts):
    return (word, parts)


class Leaves(unittest.TestCase):
    def test_operands(self):
        for tree, shown in ((("cell", None), "null"), (("cell", "x"), '"x"'), (("cell", ""), '""'),
                            (("cell", ("on",)), "on"), (A, "t.a"), (("cell", "null"), '"null"'),
                            (("cell", "a b"), '"a b"'), (("column", "t_1", "a9"), "t_1.a9")):
            self.assertEqual(show_tree(tree), shown)
            self.assertEqual(read_expression(shown), tree)

    def test_literals_with_every_character(self):
        for start in range(0, len(CHARACTERS), 12):
            name = CHARACTERS[start:start + 12]
            self.assertEqual(show_tree(("cell", name)), f'"{name}"')
            self.assertEqual(read_expression(f'"{name}"'), ("cell", name))
        for character in CHARACTERS:
            tree = ("=", ("cell", character), ("cell", character * 12))
            self.assertEqual(show_tree(tree), f'"{character}" = "{character * 12}"')
            self.assertEqual(read_condition(show_tree(tree)), tree)
        self.assertEqual(len(CHARACTERS), 93)

    def test_conditions_without_parts(self):
        for tree, shown in ((TRUE, "true"), (FALSE, "false"), (("exists", "u"), "exists u"), (P, 't.a = "p"'),
                            (("!=", ("cell", None), A), "null != t.a"), (("=", A, B), "t.a = t.b"),
                            (("=", ("cell", ("on",)), ("cell", ("off",))), "on = off"),
                            (("!=", ("cell", ""), ("cell", None)), '"" != null')):
            self.assertEqual(show_tree(tree), shown)
            self.assertEqual(read_condition(shown), tree)


class Parentheses(unittest.TestCase):
    def check(self, tree, shown):
        self.assertEqual(show_tree(tree), shown)
        self.assertEqual(read_condition(shown), tree)

    def test_parts_of_an_and(self):
        both, either = (joined("and", TRUE, FALSE), "(true and false)"), (joined("or", TRUE, FALSE), "(true or false)")
        for part, shown in (*SINGLE, both, either):
            self.check(joined("and", part, FALSE), f"{shown} and false")
            self.check(joined("and", FALSE, part), f"false and {shown}")
            self.check(joined("and", FALSE, part, part, TRUE), f"false and {shown} and {shown} and true")

    def test_parts_of_an_or(self):
        both, either = (joined("and", TRUE, FALSE), "true and false"), (joined("or", TRUE, FALSE), "(true or false)")
        for part, shown in (*SINGLE, both, either):
            self.check(joined("or", part, FALSE), f"{shown} or false")
            self.check(joined("or", FALSE, part), f"false or {shown}")
            self.check(joined("or", part, part, TRUE), f"{shown} or {shown} or true")

    def test_the_condition_behind_not(self):
        both, either = (joined("and", TRUE, FALSE), "(true and false)"), (joined("or", TRUE, FALSE), "(true or false)")
        for part, shown in (*SINGLE, both, either):
            self.check(("not", part), f"not {shown}")
            self.check(("not", ("not", part)), f"not not {shown}")

    def test_deeper_ones(self):
        self.check(joined("or", joined("and", P, joined("or", Q, R)), S),
                   't.a = "p" and (t.a = "q" or t.a = "r") or t.a = "s"')
        self.check(joined("and", joined("and", joined("and", P, Q), R), ("not", joined("or", joined("and", P, Q), R))),
                   '((t.a = "p" and t.a = "q") and t.a = "r") and not (t.a = "p" and t.a = "q" or t.a = "r")')
        self.check(joined("or", joined("or", joined("or", P, Q), R), S),
                   '((t.a = "p" or t.a = "q") or t.a = "r") or t.a = "s"')
        self.check(joined("or", joined("or", TRUE, FALSE), TRUE), "(true or false) or true")
        tree, shown = TRUE, "true"
        for _ in range(10):
            tree, shown = joined("and", tree, FALSE), f"({shown} and false)"
        self.check(tree, shown[1:-1])

    def test_no_parentheses_in_an_expression(self):
        condition = joined("or", joined("and", P, Q), R)
        self.assertEqual(show_tree(("if", ((condition, A),), B)),
                         'if t.a = "p" and t.a = "q" or t.a = "r" then t.a else t.b')


class Choices(unittest.TestCase):
    def check(self, tree, shown):
        self.assertEqual(show_tree(tree), shown)
        self.assertEqual(read_expression(shown), tree)

    def test_branches(self):
        self.check(("if", ((TRUE, A),), B), "if true then t.a else t.b")
        self.check(("if", ((TRUE, A), (FALSE, ("cell", ""))), ("cell", None)),
                   'if true then t.a else if false then "" else null')
        self.check(("if", ((P, A), (Q, B), (("not", R), ("cell", ("on",)))), A),
                   'if t.a = "p" then t.a else if t.a = "q" then t.b else if not t.a = "r" then on else t.a')

    def test_nested_ones(self):
        inner = ("if", ((FALSE, A),), B)
        self.check(("if", ((TRUE, inner),), A), "if true then if false then t.a else t.b else t.a")
        both = ("if", ((FALSE, A), (TRUE, B)), A)
        self.check(("if", ((TRUE, both), (P, inner)), B),
                   'if true then if false then t.a else if true then t.b else t.a else '
                   'if t.a = "p" then if false then t.a else t.b else t.b')
        tree, shown = A, "t.a"
        for _ in range(10):
            tree, shown = ("if", ((TRUE, tree),), B), f"if true then {shown} else t.b"
        self.check(tree, shown)

    def test_random_expressions_and_conditions(self):
        rng = random.Random(1)
        for schema in SCHEMAS:
            for _ in range(60):
                tree = random_condition(rng, schema[0], ("x", "", "a b"), 4)
                self.assertEqual(read_condition(show_tree(tree)), tree)
                kind = rng.choice(("text", "value"))
                tree = random_expression(rng, schema[0], kind, ("x", "!", "v1"), 3)
                self.assertEqual(read_expression(show_tree(tree)), tree)

    def test_spaces(self):
        rng = random.Random(2)
        for _ in range(100):
            shown = show_tree(random_condition(rng, MIXED[0], ("x",), 4))
            for wrong in ("  ", "( ", " )", " .", ". "):
                self.assertNotIn(wrong, shown)
            self.assertEqual(shown, shown.strip())


class Schemas(unittest.TestCase):
    def test_all_kinds_of_declarations_and_columns(self):
        schema = ((("t", False, (text("a"), text("b", True), ("s", ("on", "off", "idle"), False))),
                   ("u_2", True, (("k", ("one",), True), ("l", ("one",), False)))),
                  (("=", A, ("cell", "x y")), ("or", (("exists", "u_2"), ("not", ("and", (TRUE, FALSE)))))))
        shown = ("table t {\n  a text;\n  b text null;\n  s on | off | idle;\n}\n"
                 "optional table u_2 {\n  k one null;\n  l one;\n}\n"
                 'check t.a = "x y";\ncheck exists u_2 or not (true and false);\n')
        self.assertEqual(show_schema(schema), shown)
        self.assertEqual(read_schema(shown), schema)

    def test_reading_gives_the_same_schema(self):
        rng = random.Random(3)
        for schema in SCHEMAS:
            self.assertEqual(read_schema(show_schema(schema)), schema)
            checks = tuple(random_condition(rng, schema[0], ("x", "~"), 3) for _ in range(rng.randint(0, 4)))
            self.assertEqual(read_schema(show_schema((schema[0], checks))), (schema[0], checks))

    def test_schemas_that_raise_errors_are_shown_as_well(self):
        wrong = ((("t", False, (text("a"), text("a"))), ("t", True, (("s", ("on", "on"), False),))),
                 (("=", ("column", "no", "b"), ("cell", ("on",))),))
        self.assertEqual(show_schema(wrong), "table t {\n  a text;\n  a text;\n}\noptional table t {\n  s on | on;\n}\n"
                                             "check no.b = on;\n")
        with self.assertRaises(ValueError):
            check_schema(wrong)

    def test_many_values(self):
        schema = ((("t", False, (values("s", 300),)),), ())
        shown = show_schema(schema)
        self.assertEqual(shown, "table t {\n  s " + " | ".join(f"w{number}" for number in range(300)) + ";\n}\n")
        self.assertEqual(read_schema(shown), schema)


class Scripts(unittest.TestCase):
    def test_no_rules(self):
        self.assertEqual(show_script(()), "")
        self.assertEqual(read_script(""), ())

    def test_all_kinds_of_rules(self):
        script = (("set", "u", "c", A), ("drop", joined("or", P, Q)), ("when", "u", ("not", TRUE)),
                  ("set", "u", "d", ("if", ((P, B),), ("cell", None))), ("drop", FALSE))
        shown = ('u.c = t.a;\ndrop when t.a = "p" or t.a = "q";\nu when not true;\n'
                 'u.d = if t.a = "p" then t.b else null;\ndrop when false;\n')
        self.assertEqual(show_script(script), shown)
        self.assertEqual(read_script(shown), script)

    def test_reading_gives_the_same_script(self):
        rng = random.Random(4)
        for source in SCHEMAS:
            for target in SCHEMAS:
                script = random_script(rng, source, target, ("x", "", "a b c"))
                self.assertEqual(read_script(show_script(script)), script)

    def test_returned_trees(self):
        condition = condition_of(PAIR, ("x", "y"), (0, 2, 5))
        self.assertEqual(read_condition(show_tree(condition)), condition)
        rng = random.Random(5)
        for source, target in ((PAIR, FREE_PAIR), (TAGGED, SPLIT)):
            script = script_of(compiled(source, target, random_script(rng, source, target, ("k",))))
            self.assertEqual(read_script(show_script(script)), script)


if __name__ == "__main__":
    unittest.main()
