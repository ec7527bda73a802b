"""Schemas [60] to [64]: what is checked, and which records have the form, fit, and are valid."""

import itertools
import unittest

from migraproof.schemas import (check_condition, check_schema, constants_of, fits, has_form, has_shape, is_valid,
                                what_is_wrong)
from support import raised_by, raised_text

TABLES = (
    ("t", False, (("a", "text", True), ("b", "text", False), ("s", ("on", "off"), False))),
    ("u", True, (("a", "text", True), ("k", ("x", "on"), True))),
)
A, B, S = ("column", "t", "a"), ("column", "t", "b"), ("column", "t", "s")
UA, K = ("column", "u", "a"), ("column", "u", "k")
NULL, X, ON = ("cell", None), ("cell", "x"), ("cell", ("on",))
NO_TABLE, NO_COLUMN = ("column", "w", "a"), ("column", "u", "b")
TRUE = ("true",)
FALSE = ("false",)
GOOD = ("=", A, X)
MISMATCH = ("=", A, ON)
SCHEMA = (TABLES, (("!=", A, B), ("or", (("exists", "u"), ("=", S, ON)))))
# Records that have each property but not the next one, from no form to valid.
STAGES = (
    ((), (0, 0, 0, 0)),
    ((("p", "q", ("on",)),), (0, 0, 0, 0)),
    ((("p", "q", ("on",)), None, None), (0, 0, 0, 0)),
    ((("p", "q"), None), (0, 0, 0, 0)),
    ((("p", "q", ("on",), None), None), (0, 0, 0, 0)),
    (((), None), (0, 0, 0, 0)),
    ((("p", "q", ("on",)), ()), (0, 0, 0, 0)),
    (((("on",), "q", ("on",)), None), (0, 0, 0, 0)),
    ((("p", "q", "on"), None), (0, 0, 0, 0)),
    ((("p", "q", ("on",)), (("x",), None)), (0, 0, 0, 0)),
    ((None, None), (1, 0, 0, 0)),
    ((None, ("p", ("on",))), (1, 0, 0, 0)),
    ((("p", None, ("on",)), None), (1, 1, 0, 0)),
    ((("p", "q", None), None), (1, 1, 0, 0)),
    ((("p", "q", ("x",)), None), (1, 1, 0, 0)),
    ((("p", "q", ("on",)), ("r", ("off",))), (1, 1, 0, 0)),
    ((("p", "p", ("on",)), None), (1, 1, 1, 0)),
    ((("p", "q", ("off",)), None), (1, 1, 1, 0)),
    ((("p", "q", ("on",)), None), (1, 1, 1, 1)),
    ((("p", "q", ("off",)), (None, None)), (1, 1, 1, 1)),
    (((None, "q", ("on",)), ("q", ("x",))), (1, 1, 1, 1)),
)


def unknown(name):
    return f"UnknownName(name={name!r})"


def duplicate(name):
    return f"DuplicateName(name={name!r})"


def mismatch(comparison):
    return f"KindMismatch(comparison={comparison!r})"


class CheckCondition(unittest.TestCase):
    def check(self, condition, expected):
        with self.subTest(condition=condition):
            if expected is None:
                self.assertIsNone(check_condition(TABLES, condition))
            self.assertEqual(raised_text(check_condition, TABLES, condition), expected)

    def test_what_raises_nothing(self):
        for condition in (
            TRUE, FALSE, ("exists", "t"), ("exists", "u"), GOOD, ("=", X, A), ("=", A, B), ("!=", UA, B), ("=", S, ON),
            ("=", S, K), ("!=", S, ("cell", ("none_of_them",))), ("=", X, ("cell", "y")),
            ("=", ("cell", ("p",)), ("cell", ("q",))), ("not", GOOD), ("and", (GOOD, TRUE)),
            ("or", (TRUE, ("not", ("and", (GOOD, ("exists", "u")))))),
        ):
            self.check(condition, None)

    def test_null_beside_either_kind_is_no_mismatch(self):
        for operand in (A, S, X, ON, NULL, UA, K):
            for sign in ("=", "!="):
                self.check((sign, NULL, operand), None)
                self.check((sign, operand, NULL), None)

    def test_unknown_table(self):
        self.check(("exists", "w"), unknown("w"))
        self.check(("exists", "a"), unknown("a"))
        for sign in ("=", "!="):
            self.check((sign, NO_TABLE, X), unknown("w"))
            self.check((sign, X, NO_TABLE), unknown("w"))

    def test_unknown_column(self):
        self.check(("=", NO_COLUMN, X), unknown("u.b"))
        self.check(("!=", NULL, ("column", "t", "k")), unknown("t.k"))
        self.check(("=", ("column", "t", "t"), X), unknown("t.t"))

    def test_kind_mismatch(self):
        for first, second in ((A, ON), (ON, A), (S, X), (X, S), (A, S), (S, A), (UA, S), (K, B), (X, ON), (ON, X)):
            for sign in ("=", "!="):
                self.check((sign, first, second), mismatch((sign, first, second)))

    def test_the_first_operand_before_the_second(self):
        self.check(("=", NO_COLUMN, NO_TABLE), unknown("u.b"))
        self.check(("=", NO_TABLE, NO_COLUMN), unknown("w"))
        self.check(("=", ("column", "t", "p"), ("column", "t", "q")), unknown("t.p"))

    def test_an_unknown_name_before_a_mismatch(self):
        self.check(("=", ON, ("column", "t", "p")), unknown("t.p"))
        self.check(("=", NO_TABLE, ON), unknown("w"))

    def test_from_left_to_right(self):
        for joint in ("and", "or"):
            self.check((joint, (GOOD, MISMATCH, ("exists", "w"))), mismatch(MISMATCH))
            self.check((joint, (("exists", "w"), MISMATCH)), unknown("w"))
            self.check((joint, (("not", (joint, (TRUE, ("exists", "p")))), ("exists", "q"))), unknown("p"))
            self.check((joint, (TRUE, FALSE, TRUE, ("=", NO_COLUMN, X))), unknown("u.b"))
        self.check(("not", ("not", MISMATCH)), mismatch(MISMATCH))

    def test_what_could_not_matter_is_checked_as_well(self):
        self.check(("or", (TRUE, MISMATCH)), mismatch(MISMATCH))
        self.check(("and", (FALSE, ("exists", "w"))), unknown("w"))


class CheckSchema(unittest.TestCase):
    def check(self, schema, expected):
        with self.subTest(schema=schema):
            if expected is None:
                self.assertIsNone(check_schema(schema))
            self.assertEqual(raised_text(check_schema, schema), expected)

    def test_what_raises_nothing(self):
        self.check(SCHEMA, None)
        self.check((TABLES, ()), None)
        # The same names in another table, in another column, and as tables, columns and values.
        self.check(((("t", True, (("t", "text", True), ("a", ("t", "a"), True), ("b", ("a", "t"), False))),
                     ("a", True, (("t", "text", True),))), ()), None)

    def test_duplicate_tables(self):
        one = ("t", False, (("a", "text", False),))
        other = ("u", False, (("a", "text", False),))
        self.check(((one, one), ()), duplicate("t"))
        self.check(((other, one, ("u", True, (("b", "text", True),))), ()), duplicate("u"))

    def test_duplicate_columns(self):
        self.check(((("t", False, (("a", "text", False), ("a", ("p",), True))),), ()), duplicate("t.a"))
        self.check(((("t", False, (("a", "text", False), ("b", "text", False), ("c", "text", False),
                                   ("b", "text", False), ("a", "text", False))),), ()), duplicate("t.b"))

    def test_duplicate_values(self):
        self.check(((("t", False, (("a", ("p", "q", "r", "q", "p"), False),)),), ()), duplicate("t.a q"))
        self.check(((("t", False, (("a", ("p", "p"), False),)),), ()), duplicate("t.a p"))

    def test_table_by_table_and_column_by_column(self):
        twice = ("p", "p")
        # The name of a table is checked before its columns, and the columns of an earlier table before it.
        self.check(((("t", False, (("a", "text", False),)), ("t", False, (("a", twice, False),))), ()), duplicate("t"))
        self.check(((("t", False, (("a", twice, False),)), ("t", False, (("a", "text", False),))), ()),
                   duplicate("t.a p"))
        # The name of a column is checked before its values, and the values of an earlier column before it.
        self.check(((("t", False, (("a", "text", False), ("a", twice, False))),), ()), duplicate("t.a"))
        self.check(((("t", False, (("a", twice, False), ("a", "text", False))),), ()), duplicate("t.a p"))
        self.check(((("t", False, (("a", "text", False), ("b", twice, False), ("a", "text", False))),), ()),
                   duplicate("t.b p"))

    def test_checks_come_last_and_in_order(self):
        self.check((TABLES, (GOOD, MISMATCH, ("exists", "w"))), mismatch(MISMATCH))
        self.check((TABLES, (("exists", "w"), MISMATCH)), unknown("w"))
        self.check((TABLES, (TRUE, ("not", ("=", NO_COLUMN, NULL)))), unknown("u.b"))
        self.check(((("t", False, (("a", ("p", "p"), False),)),), (("exists", "w"),)), duplicate("t.a p"))
        self.check(((TABLES[0], TABLES[0]), (("exists", "w"),)), duplicate("t"))

    def test_checks_may_name_any_table(self):
        self.check((TABLES[::-1], (GOOD, ("=", UA, B))), None)

    def test_the_error_has_no_other_class(self):
        self.assertEqual(raised_by(check_schema, ((TABLES[0], TABLES[0]), ())).__class__.__name__, "DuplicateName")


class ConstantsOf(unittest.TestCase):
    def test_ascending_and_each_once(self):
        checks = (("=", A, ("cell", "c2")), ("or", (("!=", B, ("cell", "c10")), ("not", ("=", ("cell", ""), A)))),
                  ("=", ("cell", "c2"), UA), ("exists", "u"), ("=", S, ON))
        self.assertEqual(constants_of((TABLES, checks)), ("", "c10", "c2"))

    def test_none(self):
        self.assertEqual(constants_of((TABLES, ())), ())
        self.assertEqual(constants_of((TABLES, (("=", S, ON), ("=", A, NULL), TRUE))), ())


class Validity(unittest.TestCase):
    def test_each_stage(self):
        for record, expected in STAGES:
            with self.subTest(record=record):
                found = (has_form(SCHEMA, record), has_shape(SCHEMA, record), fits(SCHEMA, record),
                         is_valid(SCHEMA, record))
                self.assertEqual([type(answer) for answer in found], [bool] * 4)
                self.assertEqual(found, tuple(map(bool, expected)))

    def test_all_tables_optional(self):
        schema = ((("t", True, (("a", "text", True),)), ("u", True, (("k", ("x",), False),))), ())
        for record, expected in (
            ((None, None), (True, False, False, False)), (((None,), None), (True,) * 4),
            ((None, (("x",),)), (True,) * 4), ((None, (None,)), (True, True, False, False)),
        ):
            with self.subTest(record=record):
                self.assertEqual((has_form(schema, record), has_shape(schema, record), fits(schema, record),
                                  is_valid(schema, record)), expected)

    def test_the_checks_play_a_part_for_validity_alone(self):
        schema = (TABLES, (FALSE,))
        record = (("p", "q", ("on",)), None)
        self.assertEqual((has_form(schema, record), has_shape(schema, record), fits(schema, record),
                          is_valid(schema, record)), (True, True, True, False))


class WhatIsWrong(unittest.TestCase):
    def check(self, record, expected, schema=SCHEMA):
        with self.subTest(record=record):
            self.assertEqual(what_is_wrong(schema, record), expected)

    def test_places(self):
        for record in ((), (None,), (None, None, None), (("p", "q", ("on",)),), ((), (), ())):
            self.check(record, (("places",),))

    def test_no_row(self):
        self.check((None, None), (("no row", "t"),))
        self.check((None, ("p", None)), (("no row", "t"),))

    def test_no_rows(self):
        optional = ((("t", True, (("a", "text", True),)), ("u", True, (("a", "text", True),))), (FALSE,))
        self.check((None, None), (("no rows",),), optional)
        self.check((None, (None,)), (("check", 0),), optional)
        # A missing row of a table that is not optional has been found before.
        self.check((None,), (("no row", "t"),), ((("t", False, (("a", "text", True),)),), ()))

    def test_cells(self):
        for row in ((), ("p",), ("p", "q"), ("p", "q", ("on",), "r")):
            self.check((row, None), (("cells", "t"),))
        self.check((("p", "q", ("on",)), ()), (("cells", "u"),))

    def test_wrong_cells_are_not_looked_at_in_a_row_of_another_length(self):
        self.check(((None, None, "p", "q"), (("x",),)), (("cells", "t"), ("cells", "u")))

    def test_null(self):
        self.check(((None, None, None), (None, None)), (("null", "t", "b"), ("null", "t", "s")))

    def test_kind(self):
        self.check(((("on",), ("x",), "on"), ("p", "x")),
                   (("kind", "t", "a"), ("kind", "t", "b"), ("kind", "t", "s"), ("kind", "u", "k")))

    def test_unknown_value(self):
        self.check((("p", "q", ("x",)), ("p", ("off",))), (("unknown value", "t", "s"), ("unknown value", "u", "k")))

    def test_several_at_once_in_order(self):
        self.check(((("on",), None, ("x",)), ("p",)),
                   (("kind", "t", "a"), ("null", "t", "b"), ("unknown value", "t", "s"), ("cells", "u")))
        self.check((None, (("x",), "on")), (("no row", "t"), ("kind", "u", "a"), ("kind", "u", "k")))
        self.check(((), (None, ("q",))), (("cells", "t"), ("unknown value", "u", "k")))

    def test_checks_in_order(self):
        checks = (TRUE, FALSE, ("=", A, B), ("exists", "u"), ("=", A, X))
        self.check((("x", "q", ("on",)), None), (("check", 1), ("check", 2), ("check", 3)), (TABLES, checks))
        self.check((("p", "p", ("on",)), (None, None)), (("check", 1), ("check", 4)), (TABLES, checks))

    def test_checks_are_told_only_if_nothing_else_is_wrong(self):
        self.check((("p", None, ("on",)), None), (("null", "t", "b"),), (TABLES, (FALSE,)))

    def test_a_valid_record(self):
        self.check((("p", "q", ("on",)), None), ())

    def test_nothing_is_wrong_exactly_with_valid_records(self):
        rows_of_t = [None, (), ("p",), *itertools.product((None, "p", "q", ("on",)), ("p", None, ("x",)),
                                                         (("on",), ("off",), ("x",), None, "on"))]
        rows_of_u = (None, (), ("p", None), (None, ("x",)), ("q", ("off",)), (("x",), ("x",)))
        for record in itertools.product(rows_of_t, rows_of_u):
            reasons = what_is_wrong(SCHEMA, record)
            words = {reason[0] for reason in reasons}
            self.assertIs(is_valid(SCHEMA, record), not reasons)
            self.assertIs(fits(SCHEMA, record), words <= {"check"})
            self.assertIs(has_shape(SCHEMA, record), words <= {"check", "null", "unknown value"})
            self.assertIs(has_form(SCHEMA, record), words <= {"check", "null", "unknown value", "no row", "no rows"})


if __name__ == "__main__":
    unittest.main()
