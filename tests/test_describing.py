"""Atoms, descriptions, and conditions for selections of candidates [100], [101]."""

import itertools
import random
import unittest

from migraproof.cases import each_candidate
from migraproof.conditions import holds
from migraproof.counting import many_candidates, number_of
from migraproof.describing import apart, condition_of, description
from migraproof.records import canonical, renamed
from migraproof.schemas import check_condition
from migraproof.trees import depth, texts_of
from samples import (FREE_PAIR, IMPOSSIBLE, MIDDLE, MIXED, NULL, ONE, OPTIONAL, PAIR, SPLIT, TAGGED, X, column, equal,
                     table, text, valid_over, values)
from support import raised_text

SCHEMA = ((table("t", text("a", True), ("s", ("on", "off"), True), text("b", True)),
           table("u", text("c", True), ("k", ("x",), True), optional=True)), ())
A, S, B, C, K = column("t.a"), column("t.s"), column("t.b"), column("u.c"), column("u.k")
FULL = (("p", ("on",), "q"), ("r", ("x",)))
SOME = ((FREE_PAIR, ()), (FREE_PAIR, ("x",)), (FREE_PAIR, ("v1", "v3")), (OPTIONAL, ("", "x")), (MIDDLE, ("x",)),
        (MIXED, ("x",)), (TAGGED, ("x", "y")), (SPLIT, ("x",)), (IMPOSSIBLE, ("y",)))
# As many candidates as are listed, among them the record without any row: eight tables and twenty columns.
WIDE = ((table("t0", text("a"), text("b", True), values("s", 7), optional=True),
         table("t1", text("c"), values("s", 1), values("k", 1), optional=True),
         *[table(f"t{place}", *[values(f"s{number}", 1) for number in range(3 if place < 4 else 2)],
                 optional=place > 5) for place in range(2, 8)]), ())
ALL_OPTIONAL = (tuple(table(f"t{place}", values("s", 1), values("k", 1), *([values("m", 1)] * (place < 4)),
                            optional=True) for place in range(8)), ())


def similar_ones(record, constants):
    """Records that are similar to this one, with texts that look like others."""
    for names in (("p", "q", "r", "s", "t", "u"), ("v3", "v2", "v1", "v5", "v4", "v9"), ("a ", "", "~", "k", "m", "n")):
        olds = [cell for row in record for cell in row or () if isinstance(cell, str) and cell not in constants]
        news = [name for name in names if name not in constants]
        yield renamed(record, tuple(zip(dict.fromkeys(olds), news)))


class Apart(unittest.TestCase):
    def check(self, first, second, constants, expected):
        with self.subTest(first=first, second=second):
            self.assertEqual(apart(SCHEMA, first, second, constants), expected)
            self.assertEqual(apart(SCHEMA, second, first, constants), expected)

    def test_exists(self):
        self.check(FULL, (FULL[0], None), (), ("exists", "u"))
        self.check(((None, None, None), (None, None)), ((None, None, None), None), (), ("exists", "u"))
        self.check(FULL, ((None, ("off",), "x"), None), ("x",), ("exists", "u"))

    def test_null(self):
        for other, atom in (
            (((None, ("on",), "q"), FULL[1]), equal(A, NULL)), ((("p", None, "q"), FULL[1]), equal(S, NULL)),
            ((("p", ("on",), None), FULL[1]), equal(B, NULL)), ((FULL[0], (None, ("x",))), equal(C, NULL)),
            ((FULL[0], ("r", None)), equal(K, NULL)),
        ):
            self.check(FULL, other, (), atom)

    def test_values_in_their_order(self):
        self.check(FULL, (("p", ("off",), "q"), FULL[1]), (), equal(S, ("cell", ("on",))))
        self.check((("p", None, "q"), None), (("p", ("off",), "q"), None), (), equal(S, NULL))
        three = ((("t", False, (("s", ("c", "b", "a"), False),)),), ())
        for first, second, value in (("a", "b", "b"), ("c", "a", "c"), ("b", "c", "c")):
            self.assertEqual(apart(three, (((first,),),), (((second,),),), ()), equal(S, ("cell", (value,))))

    def test_constants_in_their_order(self):
        constants = ("m", "x")
        self.check(FULL, (("x", ("on",), "q"), FULL[1]), constants, equal(A, X))
        self.check((("m", ("on",), "q"), FULL[1]), (("x", ("on",), "q"), FULL[1]), constants, equal(A, ("cell", "m")))
        self.check(FULL, (("p", ("on",), "q"), ("m", ("x",))), constants, equal(C, ("cell", "m")))

    def test_earlier_text_columns_in_their_order(self):
        self.check(FULL, (("p", ("on",), "p"), FULL[1]), (), equal(B, A))
        self.check(FULL, (("p", ("on",), "q"), ("p", ("x",))), (), equal(C, A))
        self.check(FULL, (("p", ("on",), "q"), ("q", ("x",))), (), equal(C, B))
        self.check((("p", ("on",), "q"), ("p", ("x",))), (("p", ("on",), "q"), ("q", ("x",))), (), equal(C, A))

    def test_an_earlier_column_before_a_later_one(self):
        self.check(FULL, (("p", ("off",), "p"), (None, None)), (), equal(S, ("cell", ("on",))))
        self.check(FULL, (("p", ("on",), "p"), (None, None)), (), equal(B, A))

    def test_none_for_similar_records(self):
        for first, second, constants in (
            (FULL, FULL, ()), (FULL, (("r", ("on",), "p"), ("q", ("x",))), ()),
            ((("x", None, "p"), None), (("x", None, ""), None), ("x",)),
            (((None, None, None), None), ((None, None, None), None), ("x",)),
        ):
            self.check(first, second, constants, None)

    def test_none_if_and_only_if_the_records_are_similar(self):
        for schema, constants in ((FREE_PAIR, ("x",)), (SPLIT, ("x",)), (OPTIONAL, ())):
            records = valid_over(schema, ("x", "p", "q"))
            for first, second in itertools.product(records, repeat=2):
                similar = canonical(first, constants) == canonical(second, constants)
                self.assertEqual(apart(schema, first, second, constants) is None, similar)

    def test_what_is_returned_is_true_for_one_of_them(self):
        records = valid_over(TAGGED, ("x", "p", "q"))
        for first, second in itertools.combinations(records, 2):
            atom = apart(TAGGED, first, second, ("x",))
            if atom is not None:
                self.assertNotEqual(holds(TAGGED[0], atom, first), holds(TAGGED[0], atom, second))


class Conditions(unittest.TestCase):
    def check_form(self, schema, constants, condition):
        self.assertLessEqual(depth(condition), 8)
        self.assertLessEqual(set(texts_of(condition)), set(constants))
        self.assertIsNone(check_condition(schema[0], condition))
        self.check_parts(condition)

    def check_parts(self, condition):
        if condition[0] in ("and", "or"):
            self.assertIs(type(condition[1]), tuple)
            self.assertGreater(len(condition[1]), 1)
            for part in condition[1]:
                self.check_parts(part)
        elif condition[0] == "not":
            self.check_parts(condition[1])


class Description(Conditions):
    def test_true_for_similar_records_and_false_for_every_other_candidate(self):
        for schema, constants in SOME:
            candidates = list(each_candidate(schema, constants))
            for record in candidates:
                if record == (None, None):
                    continue
                condition = description(schema, record, constants)
                self.check_form(schema, constants, condition)
                for other in candidates:
                    self.assertIs(holds(schema[0], condition, other), other == record)
                for other in similar_ones(record, constants):
                    self.assertTrue(holds(schema[0], condition, other))

    def test_a_record_that_is_not_canonical(self):
        for record in valid_over(TAGGED, ("x", "q", "v2", "p")):
            condition = description(TAGGED, record, ("x",))
            for other in valid_over(TAGGED, ("x", "r", "v1")):
                similar = canonical(record, ("x",)) == canonical(other, ("x",))
                self.assertIs(holds(TAGGED[0], condition, other), similar)

    def test_records_whose_only_difference_is_which_two_cells_are_equal(self):
        schema = ((table("t", *[text(f"a{number}") for number in range(4)]),), ())
        one = (("p", "p", "q", "r"),)
        others = [(("p", "q", "p", "r"),), (("p", "q", "r", "p"),), (("p", "q", "q", "r"),), (("p", "q", "r", "q"),),
                  (("p", "q", "r", "r"),)]
        condition = description(schema, one, ())
        self.assertTrue(holds(schema[0], condition, (("z", "z", "y", "x"),)))
        for other in others:
            self.assertFalse(holds(schema[0], condition, other))
            self.assertTrue(holds(schema[0], description(schema, other, ()), other))
            self.assertFalse(holds(schema[0], description(schema, other, ()), one))

    def test_a_schema_with_very_many_candidates(self):
        tables = [table(f"t{place}", text("a", True), values("s", 4, True), text("b", True), optional=place > 1)
                  for place in range(6)]
        schema = (tuple(tables), ())
        constants = tuple(sorted(f"k{number}" for number in range(300)))
        self.assertGreater(many_candidates(schema, 300), 10 ** 9)
        rng = random.Random(5)
        texts = (None, "p", "q", "r", "k7", "k299", "m")
        records = [tuple(None if place > 1 and rng.random() < 0.2 else
                         (rng.choice(texts), rng.choice((None, ("w0",), ("w3",))), rng.choice(texts))
                         for place in range(6)) for _ in range(12)]
        for record in records:
            condition = description(schema, record, constants)
            self.check_form(schema, constants, condition)
            for other in (*records, *similar_ones(record, constants)):
                same = number_of(schema, constants, other) == number_of(schema, constants, record)
                self.assertIs(holds(schema[0], condition, other), same)

    def test_a_schema_with_one_candidate(self):
        schema = ((table("t", text("a")),), ())
        condition = description(schema, (("p",),), ())
        self.check_form(schema, (), condition)
        self.assertTrue(holds(schema[0], condition, (("",),)))


class ConditionOf(Conditions):
    def check_selection(self, schema, constants, numbers):
        condition = condition_of(schema, constants, numbers)
        self.check_form(schema, constants, condition)
        for number, candidate in enumerate(each_candidate(schema, constants)):
            if any(row is not None for row in candidate):
                with self.subTest(schema=schema, numbers=numbers, number=number):
                    self.assertIs(holds(schema[0], condition, candidate), number in numbers)

    def test_none_one_and_all(self):
        for schema, constants in SOME:
            many = many_candidates(schema, len(constants))
            self.check_selection(schema, constants, ())
            self.check_selection(schema, constants, tuple(range(many)))
            for number in range(0, many, 1 + many // 20):
                self.check_selection(schema, constants, (number,))
                self.check_selection(schema, constants, tuple(other for other in range(many) if other != number))

    def test_each_selection_of_seven(self):
        for many in range(8):
            for numbers in itertools.combinations(range(7), many):
                self.check_selection(FREE_PAIR, ("x",), numbers)

    def test_some_of_many(self):
        rng = random.Random(1)
        for schema, constants in (*SOME, (WIDE, ()), (ALL_OPTIONAL, ())):
            many = many_candidates(schema, len(constants))
            self.assertLessEqual(many, 300)
            for part in (0.1, 0.5, 0.9):
                numbers = tuple(number for number in range(many) if rng.random() < part)
                self.check_selection(schema, constants, numbers)

    def test_records_that_are_similar_to_a_selected_candidate(self):
        for schema, constants in ((TAGGED, ("x",)), (SPLIT, ("x",))):
            records = valid_over(schema, ("x", "q", "v2", "", "p"))
            for many in (1, 3, 7):
                numbers = tuple(range(1, many_candidates(schema, len(constants)), many))
                condition = condition_of(schema, constants, numbers)
                for record in records:
                    self.assertIs(holds(schema[0], condition, record), number_of(schema, constants, record) in numbers)

    def test_the_candidate_without_any_row(self):
        for schema in (OPTIONAL, SPLIT):
            fitting = list(each_candidate(schema, ()))[1:]
            for numbers in ((0,), (0, 1), (1,), (0, len(fitting)), tuple(range(len(fitting) + 1))):
                condition = condition_of(schema, (), numbers)
                self.check_form(schema, (), condition)
                self.assertEqual([holds(schema[0], condition, record) for record in fitting],
                                 [number in numbers for number in range(1, len(fitting) + 1)])

    def test_eight_tables_and_twenty_columns(self):
        for schema in (WIDE, ALL_OPTIONAL):
            self.assertEqual((len(schema[0]), sum(len(columns) for _, _, columns in schema[0])), (8, 20))
        self.assertEqual((many_candidates(WIDE, 0), many_candidates(ALL_OPTIONAL, 0)), (288, 256))
        self.check_selection(WIDE, (), tuple(range(0, 288, 2)))
        self.check_selection(ALL_OPTIONAL, (), tuple(range(0, 256, 3)))

    def test_three_hundred_candidates(self):
        constants = tuple(sorted(f"k{number}" for number in range(299)))
        for numbers in ((299,), (0, 299), tuple(range(299)), tuple(range(0, 300, 2)), tuple(range(300))):
            self.check_selection(ONE, constants, numbers)
        schema = ((table("t", values("s", 300)),), ())
        self.check_selection(schema, constants, tuple(range(0, 300, 3)))

    def test_too_many_candidates(self):
        schema = ((table("t", values("s", 300, True)),), ())
        self.assertEqual(raised_text(condition_of, schema, (), (0,)), "TooManyCases(count=301)")
        self.assertEqual(raised_text(condition_of, schema, ("x",), ()), "TooManyCases(count=301)")
        constants = tuple(sorted(f"k{number}" for number in range(300)))
        self.assertEqual(raised_text(condition_of, ONE, constants, (0,)), "TooManyCases(count=301)")

    def test_the_checks_play_no_part(self):
        for numbers in ((), (1,), (0, 2), (1, 5)):
            self.assertEqual([holds(PAIR[0], condition_of(PAIR, ("x",), numbers), record)
                              for record in each_candidate(PAIR, ("x",))], [number in numbers for number in range(7)])


if __name__ == "__main__":
    unittest.main()
