"""Conditions and expressions [40] to [42], [44]."""

import itertools
import unittest

from migraproof.conditions import cell_of, holds
from migraproof.records import renamed
from migraproof.trees import tree_renamed

TABLES = (
    ("t", False, (("a", "text", True), ("b", "text", True), ("s", ("on", "off"), True))),
    ("u", True, (("a", "text", True), ("s", ("on", "x"), True))),
)
A, B, S = ("column", "t", "a"), ("column", "t", "b"), ("column", "t", "s")
UA, US = ("column", "u", "a"), ("column", "u", "s")
NULL, X, Y, ON, VALUE_X = ("cell", None), ("cell", "x"), ("cell", "y"), ("cell", ("on",)), ("cell", ("x",))
TRUE, FALSE, HAS = ("true",), ("false",), ("exists", "u")

FULL = (("x", "y", ("on",)), ("x", ("x",)))
LONELY = (("x", None, ("off",)), None)
EMPTY = ((None, None, None), (None, None))
NOTHING = (None, None)


class Conditions(unittest.TestCase):
    def check(self, condition, record, expected):
        with self.subTest(condition=condition, record=record):
            self.assertIs(holds(TABLES, condition, record), expected)

    def test_true_and_false(self):
        for record in (FULL, LONELY, EMPTY, NOTHING):
            self.check(TRUE, record, True)
            self.check(FALSE, record, False)

    def test_exists(self):
        for record, in_t, in_u in ((FULL, True, True), (LONELY, True, False), (EMPTY, True, True),
                                   (NOTHING, False, False), ((None, ("x", None)), False, True)):
            self.check(("exists", "t"), record, in_t)
            self.check(HAS, record, in_u)

    def test_comparisons(self):
        for first, second, record, equal in (
            (A, X, FULL, True), (X, A, FULL, True), (A, Y, FULL, False), (A, B, FULL, False), (A, UA, FULL, True),
            (B, Y, FULL, True), (S, ON, FULL, True), (S, ON, LONELY, False), (X, X, FULL, True), (X, Y, FULL, False),
            (S, US, FULL, False), (S, S, FULL, True), (A, A, LONELY, True), (B, B, LONELY, True),
            (("cell", ""), NULL, FULL, False), (("cell", ""), ("cell", " "), FULL, False),
        ):
            self.check(("=", first, second), record, equal)
            self.check(("!=", first, second), record, not equal)

    def test_null_equals_null_and_nothing_else(self):
        for first, second, record, equal in (
            (NULL, NULL, FULL, True), (A, NULL, FULL, False), (B, NULL, LONELY, True), (NULL, B, LONELY, True),
            (A, B, EMPTY, True), (A, B, LONELY, False), (S, NULL, EMPTY, True), (A, UA, EMPTY, True),
            (S, US, EMPTY, True), (S, NULL, FULL, False),
        ):
            self.check(("=", first, second), record, equal)
            self.check(("!=", first, second), record, not equal)

    def test_a_column_of_a_table_without_a_row_is_null(self):
        for first, second, record, equal in (
            (UA, NULL, LONELY, True), (US, NULL, LONELY, True), (UA, B, LONELY, True), (UA, A, LONELY, False),
            (UA, UA, LONELY, True), (A, B, NOTHING, True), (A, UA, NOTHING, True), (A, X, NOTHING, False),
            (S, ON, NOTHING, False),
        ):
            self.check(("=", first, second), record, equal)
            self.check(("!=", first, second), record, not equal)

    def test_a_text_is_no_value(self):
        for first, second in ((X, VALUE_X), (VALUE_X, X), (("cell", "on"), ON), (("cell", "on"), S), (US, X), (UA, US)):
            self.check(("=", first, second), FULL, False)
            self.check(("!=", first, second), FULL, True)
        self.check(("=", US, VALUE_X), FULL, True)

    def test_a_value_need_not_be_one_of_the_column(self):
        self.check(("=", S, ("cell", ("other",))), FULL, False)
        self.check(("=", S, ("cell", ("other",))), (("x", "y", ("other",)), None), True)

    def test_not(self):
        self.check(("not", TRUE), FULL, False)
        self.check(("not", FALSE), FULL, True)
        self.check(("not", ("not", HAS)), FULL, True)
        self.check(("not", ("=", A, X)), FULL, False)

    def test_and_and_or(self):
        for many in (2, 3, 4):
            for parts in itertools.product((TRUE, FALSE), repeat=many):
                self.check(("and", parts), FULL, FALSE not in parts)
                self.check(("or", parts), FULL, TRUE in parts)

    def test_nested(self):
        condition = ("or", (("and", (("=", A, X), ("not", HAS))), ("and", (("=", A, UA), ("!=", B, NULL), HAS))))
        self.check(condition, FULL, True)
        self.check(condition, LONELY, True)
        self.check(condition, EMPTY, False)
        self.check(("not", condition), EMPTY, True)

    def test_columns_of_the_same_name_in_two_tables(self):
        record = (("p", "q", ("on",)), ("r", ("x",)))
        self.check(("=", A, ("cell", "p")), record, True)
        self.check(("=", UA, ("cell", "r")), record, True)
        self.check(("=", US, ON), record, False)

    def test_operands_that_look_like_names_are_cells(self):
        self.check(("=", ("cell", "t"), A), FULL, False)
        self.check(("=", ("cell", "t"), A), (("t", None, None), None), True)

    def test_renaming_that_keeps_the_texts_changes_no_truth(self):
        conditions = (("=", A, X), ("=", A, B), ("!=", A, UA), ("and", (HAS, ("=", UA, NULL))), ("=", S, ON))
        for record in (FULL, LONELY, EMPTY, NOTHING, (("p", "p", None), ("q", None))):
            for condition in conditions:
                self.check(condition, renamed(record, (("p", "q"), ("q", "p"), ("y", "z"), ("z", "y"))),
                           holds(TABLES, condition, record))


class Expressions(unittest.TestCase):
    def check(self, expression, record, expected):
        with self.subTest(expression=expression, record=record):
            found = cell_of(TABLES, expression, record)
            self.assertEqual((type(found), found), (type(expected), expected))

    def test_operands(self):
        self.check(NULL, FULL, None)
        self.check(X, FULL, "x")
        self.check(("cell", ""), FULL, "")
        self.check(VALUE_X, FULL, ("x",))
        self.check(B, FULL, "y")
        self.check(B, LONELY, None)
        self.check(S, LONELY, ("off",))
        self.check(UA, FULL, "x")
        self.check(UA, LONELY, None)
        self.check(S, NOTHING, None)

    def test_the_first_branch_that_is_true(self):
        expression = ("if", ((("=", A, Y), X), (("=", A, X), B), (TRUE, S), (HAS, NULL)), Y)
        self.check(expression, FULL, "y")
        self.check(expression, LONELY, None)
        self.check(expression, (("y", None, None), None), "x")
        self.check(expression, (("z", None, ("on",)), None), ("on",))

    def test_no_branch_that_is_true(self):
        self.check(("if", ((FALSE, X),), Y), FULL, "y")
        self.check(("if", ((FALSE, X), (("=", A, B), S)), B), FULL, "y")
        self.check(("if", ((HAS, X), (FALSE, Y)), UA), LONELY, None)

    def test_an_if_inside_a_branch(self):
        inner = ("if", ((("=", B, NULL), X),), B)
        expression = ("if", ((HAS, inner), (("=", A, X), ("if", ((FALSE, A),), ("cell", "in")))), ("cell", "out"))
        self.check(expression, FULL, "y")
        self.check(expression, EMPTY, "x")
        self.check(expression, LONELY, "in")
        self.check(expression, (("z", None, None), None), "out")

    def test_a_branch_that_gives_null_is_taken(self):
        self.check(("if", ((TRUE, NULL), (TRUE, X)), Y), FULL, None)

    def test_renaming_that_keeps_the_texts_renames_the_cell(self):
        pairs = (("p", "q"), ("q", "p"))
        expression = ("if", ((("=", A, X), B), (("=", A, B), UA)), A)
        for record in itertools.product(itertools.product(("x", "p", "q"), ("p", "q"), (None,)),
                                        (None, ("p", None), ("x", None))):
            found = cell_of(TABLES, expression, record)
            expected = None if found is None else renamed(((found,),), pairs)[0][0]
            self.check(expression, renamed(record, pairs), expected)
            self.check(tree_renamed(expression, (("x", "y"),)), renamed(record, (("x", "y"),)),
                       None if found is None else renamed(((found,),), (("x", "y"),))[0][0])


if __name__ == "__main__":
    unittest.main()
