"""Scripts: what is checked, and the results that they give [140] to [143]."""

import itertools
import unittest

from migraproof.schemas import has_shape
from migraproof.scripts import applied, check_script, script_texts
from samples import NULL, X, column, equal, table, text, unequal, valid_over
from support import raised_text

SOURCE = ((table("t", text("a"), text("b", True), ("s", ("on", "off"), True)),
           table("u", text("c"), optional=True)), ())
TARGET = ((table("p", text("a"), ("k", ("on", "no"), False)), table("q", text("b", True), optional=True),
           table("r", text("c"), optional=True)), ())
A, B, S, C = column("t.a"), column("t.b"), column("t.s"), column("u.c")
ON, Y = ("cell", ("on",)), ("cell", "y")
TRUE, FALSE = ("true",), ("false",)
NO_TABLE, NO_COLUMN = column("w.a"), column("t.c")
MISMATCH = equal(A, S)

SET_A, SET_K, SET_B, SET_C = (("set", "p", "a", A), ("set", "p", "k", S), ("set", "q", "b", B), ("set", "r", "c", C))
SETS = (SET_A, SET_K, SET_B, SET_C)


def name_error(kind, name):
    return f"{kind}(name={name!r})"


def mismatch(comparison):
    return f"KindMismatch(comparison={comparison!r})"


def choose(*branches, otherwise=NULL):
    return ("if", branches, otherwise)


class CheckScript(unittest.TestCase):
    def check(self, script, expected):
        with self.subTest(script=script):
            self.assertEqual(raised_text(check_script, SOURCE, TARGET, script), expected)

    def check_rule(self, rule, expected):
        """Checks a rule before all other rules, and behind those that do not give the same."""
        others = tuple(other for other in SETS if other[:3] != rule[:3])
        self.check((rule, *others), expected)
        self.check((*others, rule), expected)

    def test_nothing_is_returned(self):
        self.assertIsNone(check_script(SOURCE, TARGET, SETS))

    def test_what_raises_nothing(self):
        for script in (SETS, SETS[::-1], (*SETS, ("drop", TRUE)), (("drop", FALSE), *SETS, ("drop", equal(A, X))),
                       (("when", "q", ("exists", "u")), *SETS, ("when", "r", unequal(B, NULL)))):
            self.check(script, None)
        self.check_rule(("drop", ("and", (("exists", "t"), ("not", ("exists", "u")), equal(C, B)))), None)

    def test_drop(self):
        self.check_rule(("drop", ("exists", "p")), name_error("UnknownName", "p"))
        self.check_rule(("drop", equal(NO_TABLE, X)), name_error("UnknownName", "w"))
        self.check_rule(("drop", equal(X, NO_COLUMN)), name_error("UnknownName", "t.c"))
        self.check_rule(("drop", ("or", (TRUE, MISMATCH))), mismatch(MISMATCH))

    def test_when(self):
        self.check_rule(("when", "t", TRUE), name_error("UnknownName", "t"))
        self.check_rule(("when", "p", TRUE), name_error("NotOptional", "p"))
        self.check((("when", "q", TRUE), *SETS, ("when", "q", FALSE)), name_error("GivenTwice", "q"))
        self.check_rule(("when", "q", ("exists", "r")), name_error("UnknownName", "r"))
        self.check_rule(("when", "r", MISMATCH), mismatch(MISMATCH))

    def test_the_order_of_the_errors_of_a_when_rule(self):
        self.check_rule(("when", "t", MISMATCH), name_error("UnknownName", "t"))
        self.check_rule(("when", "p", MISMATCH), name_error("NotOptional", "p"))
        self.check((("when", "q", TRUE), ("when", "q", MISMATCH), *SETS), name_error("GivenTwice", "q"))
        self.check((("when", "q", MISMATCH), ("when", "q", TRUE), *SETS), mismatch(MISMATCH))

    def test_a_table_that_is_not_optional_twice(self):
        self.check((("when", "p", TRUE), ("when", "p", TRUE), *SETS), name_error("NotOptional", "p"))

    def test_set(self):
        self.check_rule(("set", "t", "a", A), name_error("UnknownName", "t"))
        self.check_rule(("set", "p", "s", A), name_error("UnknownName", "p.s"))
        self.check_rule(("set", "q", "a", A), name_error("UnknownName", "q.a"))
        self.check((*SETS, SET_B), name_error("GivenTwice", "q.b"))
        self.check((SET_A, ("set", "p", "a", X), SET_K, SET_B, SET_C), name_error("GivenTwice", "p.a"))
        self.check_rule(("set", "p", "a", NO_TABLE), name_error("UnknownName", "w"))
        self.check_rule(("set", "p", "a", NO_COLUMN), name_error("UnknownName", "t.c"))
        self.check_rule(("set", "p", "a", column("p.a")), name_error("UnknownName", "p"))
        self.check_rule(("set", "p", "a", choose((MISMATCH, A))), mismatch(MISMATCH))
        self.check_rule(("set", "p", "a", S), name_error("WrongKind", "p.a"))
        self.check_rule(("set", "p", "k", A), name_error("WrongKind", "p.k"))

    def test_the_order_of_the_errors_of_a_set_rule(self):
        self.check_rule(("set", "t", "z", NO_TABLE), name_error("UnknownName", "t"))
        self.check_rule(("set", "p", "z", NO_TABLE), name_error("UnknownName", "p.z"))
        self.check((SET_A, ("set", "p", "a", NO_TABLE), SET_K, SET_B, SET_C), name_error("GivenTwice", "p.a"))
        self.check_rule(("set", "p", "a", choose((TRUE, S), otherwise=NO_TABLE)), name_error("UnknownName", "w"))
        self.check_rule(("set", "p", "a", choose((TRUE, S), (MISMATCH, S))), mismatch(MISMATCH))
        self.check((("set", "p", "a", S), SET_A), name_error("WrongKind", "p.a"))

    def test_an_equally_named_column_of_another_table_is_another_one(self):
        target = ((table("p", text("a")), table("q", text("a"))), ())
        sets = (("set", "p", "a", A), ("set", "q", "a", A))
        self.assertIsNone(check_script(SOURCE, target, sets))
        self.assertEqual(raised_text(check_script, SOURCE, target, sets[:1]), name_error("NotAssigned", "q.a"))

    def test_the_errors_of_an_expression_from_left_to_right(self):
        other = equal(S, A)
        for expression, expected in (
            (choose((MISMATCH, NO_TABLE), otherwise=NO_COLUMN), mismatch(MISMATCH)),
            (choose((TRUE, NO_TABLE), (MISMATCH, A), otherwise=NO_COLUMN), name_error("UnknownName", "w")),
            (choose((TRUE, A), (MISMATCH, NO_TABLE), otherwise=NO_COLUMN), mismatch(MISMATCH)),
            (choose((TRUE, A), (TRUE, B), otherwise=NO_COLUMN), name_error("UnknownName", "t.c")),
            (choose((TRUE, choose((other, A), otherwise=NO_TABLE)), (MISMATCH, A)), mismatch(other)),
            (choose((TRUE, choose((TRUE, A), otherwise=NO_TABLE)), (MISMATCH, A)), name_error("UnknownName", "w")),
            (choose((TRUE, choose((TRUE, NO_COLUMN), otherwise=NO_TABLE)), (MISMATCH, A)),
             name_error("UnknownName", "t.c")),
            (choose((("and", (TRUE, ("exists", "v"), MISMATCH)), NO_TABLE)), name_error("UnknownName", "v")),
        ):
            self.check_rule(("set", "p", "a", expression), expected)

    def test_what_an_expression_can_give(self):
        for expression in (A, B, C, X, NULL, choose((TRUE, A)), choose((equal(S, ON), A), otherwise=X),
                           choose((TRUE, choose((FALSE, B), otherwise=C)), (TRUE, NULL), otherwise=Y)):
            self.check_rule(("set", "p", "a", expression), None)
            self.check_rule(("set", "q", "b", expression), None)
            expected = None if expression == NULL else name_error("WrongKind", "p.k")
            self.check_rule(("set", "p", "k", expression), expected)
        for expression in (S, ON, ("cell", ("other",)), choose((TRUE, S)), choose((FALSE, NULL), otherwise=ON),
                           choose((equal(A, X), choose((TRUE, NULL), otherwise=S)), (TRUE, NULL)),
                           choose((TRUE, NULL), (FALSE, choose((FALSE, ON))))):
            self.check_rule(("set", "p", "k", expression), None)
            self.check_rule(("set", "p", "a", expression), name_error("WrongKind", "p.a"))
            self.check_rule(("set", "q", "b", expression), name_error("WrongKind", "q.b"))
        for mixed in (choose((TRUE, A), otherwise=S), choose((TRUE, A), (TRUE, S)), choose((TRUE, S), otherwise=A),
                      choose((TRUE, choose((TRUE, X), otherwise=ON)))):
            self.check_rule(("set", "p", "a", mixed), name_error("WrongKind", "p.a"))
            self.check_rule(("set", "p", "k", mixed), name_error("WrongKind", "p.k"))

    def test_null_can_be_given_to_either_kind(self):
        for name, at in (("p", "a"), ("p", "k"), ("q", "b")):
            self.check_rule(("set", name, at, NULL), None)
            self.check_rule(("set", name, at, choose((TRUE, NULL), (FALSE, NULL))), None)

    def test_what_only_a_condition_mentions_cannot_be_given(self):
        self.check_rule(("set", "p", "a", choose((equal(S, ON), A))), None)
        self.check_rule(("set", "p", "k", choose((equal(A, X), S))), None)

    def test_not_assigned_is_found_behind_the_last_rule(self):
        for left_out, name in ((0, "p.a"), (1, "p.k"), (2, "q.b"), (3, "r.c")):
            self.check(SETS[:left_out] + SETS[left_out + 1:], name_error("NotAssigned", name))
        self.check((), name_error("NotAssigned", "p.a"))
        self.check((SET_C, SET_A), name_error("NotAssigned", "p.k"))
        self.check((SET_C, SET_K, SET_A), name_error("NotAssigned", "q.b"))
        self.check((SET_A, ("drop", MISMATCH)), mismatch(MISMATCH))
        self.check((("when", "q", FALSE), SET_A, SET_K, SET_C), name_error("NotAssigned", "q.b"))

    def test_rule_by_rule(self):
        faults = ((("drop", MISMATCH), mismatch(MISMATCH)), (("when", "p", TRUE), name_error("NotOptional", "p")),
                  (("set", "p", "a", S), name_error("WrongKind", "p.a")),
                  (("set", "z", "a", A), name_error("UnknownName", "z")))
        for (first, expected), (second, _) in itertools.permutations(faults, 2):
            self.check((SET_K, first, second), expected)


class Applied(unittest.TestCase):
    def check(self, script, record, expected):
        with self.subTest(script=script, record=record):
            found = applied(SOURCE, TARGET, script, record)
            self.assertEqual(found, expected)

    FULL = (("m", "n", ("on",)), ("o",))
    LONELY = (("x", None, ("off",)), None)

    def test_a_row_for_each_table_without_a_when_rule(self):
        self.check(SETS, self.FULL, (("m", ("on",)), ("n",), ("o",)))
        self.check(SETS, self.LONELY, (("x", ("off",)), (None,), (None,)))

    def test_what_the_target_does_not_allow_is_given_all_the_same(self):
        found = applied(SOURCE, TARGET, SETS, (("x", None, None), None))
        self.assertEqual(found, (("x", None), (None,), (None,)))
        self.assertTrue(has_shape(TARGET, found))
        self.check((SET_A, ("set", "p", "k", ("cell", ("never",))), SET_B, ("set", "r", "c", NULL)), self.FULL,
                   (("m", ("never",)), ("n",), (None,)))
        checked = (TARGET[0], (("false",),))
        self.assertEqual(applied(SOURCE, checked, SETS, self.FULL), (("m", ("on",)), ("n",), ("o",)))

    def test_a_when_rule_that_is_true_false_and_absent(self):
        for in_q, in_r in itertools.product((TRUE, FALSE, None), repeat=2):
            rules = [("when", name, rule) for name, rule in (("q", in_q), ("r", in_r)) if rule is not None]
            self.check((*SETS, *rules), self.FULL,
                       (("m", ("on",)), None if in_q == FALSE else ("n",), None if in_r == FALSE else ("o",)))
        exists = (("when", "r", ("exists", "u")), *SETS)
        self.check(exists, self.FULL, (("m", ("on",)), ("n",), ("o",)))
        self.check(exists, self.LONELY, (("x", ("off",)), (None,), None))

    def test_drop_rules(self):
        first, second = ("drop", equal(A, X)), ("drop", ("exists", "u"))
        for rules, full, lonely in (((first,), True, False), ((second,), False, True), ((first, second), False, False),
                                    ((second, first), False, False), ((("drop", FALSE),), True, True),
                                    ((("drop", FALSE), ("drop", TRUE)), False, False)):
            for script in ((*rules, *SETS), (*SETS, *rules)):
                self.check(script, self.FULL, (("m", ("on",)), ("n",), ("o",)) if full else None)
                self.check(script, self.LONELY, (("x", ("off",)), (None,), (None,)) if lonely else None)

    def test_a_record_whose_rows_are_all_missing_is_dropped(self):
        target = ((table("q", text("b"), optional=True), table("r", text("c"), optional=True)), ())
        sets = (("set", "q", "b", A), ("set", "r", "c", B))
        whens = (("when", "q", equal(A, X)), ("when", "r", ("exists", "u")))
        for record, expected in ((self.FULL, (None, ("n",))), (self.LONELY, (("x",), None)),
                                 ((("m", None, None), None), None)):
            self.assertEqual(applied(SOURCE, target, (*sets, *whens), record), expected)
            self.assertEqual(applied(SOURCE, target, (whens[1], *sets, whens[0]), record), expected)

    def test_the_order_of_the_rules_makes_no_difference(self):
        rules = (("drop", equal(B, A)), ("when", "q", unequal(B, NULL)), SET_A, SET_B,
                 ("set", "p", "k", choose((equal(S, ON), ON), otherwise=("cell", ("no",)))), SET_C)
        records = valid_over(SOURCE, ("x", "y"))
        expected = [applied(SOURCE, TARGET, rules, record) for record in records]
        for order in itertools.permutations(rules):
            self.assertEqual([applied(SOURCE, TARGET, order, record) for record in records], expected)
        self.assertIn(None, expected)

    def test_everything_is_evaluated_for_the_record_of_the_source(self):
        source = ((table("p", text("a"), text("b")),), ())
        rules = (("set", "p", "a", column("p.b")), ("set", "p", "b", column("p.a")), ("drop", equal(column("p.a"), X)))
        self.assertEqual(applied(source, source, rules, (("y", "x"),)), (("x", "y"),))
        self.assertIsNone(applied(source, source, rules, (("x", "y"),)))

    def test_a_record_that_is_not_valid_but_has_the_form(self):
        self.check(SETS, (None, ("o",)), ((None, None), (None,), ("o",)))
        self.check(SETS, ((None, None, ("odd",)), (None,)), ((None, ("odd",)), (None,), (None,)))
        self.check((*SETS, ("when", "q", ("exists", "t"))), (None, None), ((None, None), None, (None,)))

    def test_nested_expressions(self):
        inner = choose((equal(B, NULL), X), (equal(B, A), Y), otherwise=B)
        rules = (("set", "p", "a", choose((equal(S, ON), inner), (("exists", "u"), C), otherwise=A)), *SETS[1:])
        for record, expected in (((("m", None, ("on",)), None), "x"), ((("m", "m", ("on",)), None), "y"),
                                 ((("m", "n", ("on",)), None), "n"), ((("m", "n", None), ("o",)), "o"),
                                 ((("m", "n", ("off",)), None), "m")):
            self.assertEqual(applied(SOURCE, TARGET, rules, record)[0][0], expected)


class ScriptTexts(unittest.TestCase):
    def test_no_texts(self):
        self.assertEqual(script_texts(()), ())
        self.assertEqual(script_texts((*SETS, ("drop", equal(S, ON)), ("when", "q", ("exists", "u")))), ())
        self.assertEqual(script_texts((("set", "p", "a", NULL),)), ())

    def test_in_each_place(self):
        for rule in (("drop", equal(A, X)), ("drop", ("not", ("and", (TRUE, unequal(X, B))))),
                     ("when", "q", equal(X, X)), ("set", "p", "a", X), ("set", "p", "a", choose((TRUE, X))),
                     ("set", "p", "a", choose((equal(A, X), A))), ("set", "p", "a", choose((TRUE, A), otherwise=X)),
                     ("set", "p", "a", choose((TRUE, choose((TRUE, A), otherwise=X)), otherwise=A))):
            self.assertEqual(script_texts((rule,)), ("x",))
            self.assertEqual(script_texts((*SETS, rule)), ("x",))

    def test_ascending_and_each_once(self):
        self.assertEqual(script_texts((("set", "q", "b", ("cell", "b")), ("drop", equal(A, ("cell", "c10"))),
                                       ("when", "q", unequal(("cell", "c2"), ("cell", ""))), ("drop", equal(A, X)),
                                       ("set", "r", "c", choose((equal(B, X), X), otherwise=("cell", "b"))))),
                         ("", "b", "c10", "c2", "x"))

    def test_names_and_values_are_no_texts(self):
        rules = (("when", "x", equal(column("y.z"), ("cell", ("w",)))), ("set", "m", "n", ON))
        self.assertEqual(script_texts(rules), ())


if __name__ == "__main__":
    unittest.main()
