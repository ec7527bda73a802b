"""Counts, capacities, the records over a set of texts, and excess [122] to [125]."""

import itertools
import unittest

from migraproof.capacity import capacity, counts, excess, from_counts, records_over
from migraproof.cases import cases
from migraproof.counting import many_candidates
from migraproof.polynomials import added, falling, multiplied, value_at
from migraproof.records import free_texts
from migraproof.schemas import constants_of
from samples import (FREE_PAIR, IMPOSSIBLE, MIDDLE, MIXED, NULL, ONE, OPTIONAL, PAIR, SPLIT, TAGGED, X, column, equal,
                     table, text, unequal, valid_over, values)
from support import raised_text

ALL = (ONE, PAIR, FREE_PAIR, MIXED, OPTIONAL, MIDDLE, TAGGED, SPLIT, IMPOSSIBLE)
VALUES_301 = ((table("t", values("s", 300, True)),), ())
NAMES = ("a", "b", "c", "d", "e")


def constants_with(schema, *more):
    return tuple(sorted({*constants_of(schema), *more}))


def with_check(schema, check):
    return (schema[0], (*schema[1], check))


class Counts(unittest.TestCase):
    def test_the_cases_with_so_many_free_texts(self):
        for schema in ALL:
            for more in ((), ("x",), ("a", "v1")):
                constants = constants_with(schema, *more)
                if many_candidates(schema, len(constants)) > 300:
                    continue
                found = counts(schema, constants)
                many = [len(free_texts(case, constants)) for case in cases(schema, constants)]
                self.assertEqual(found, tuple(many.count(number) for number in range(max(many, default=-1) + 1)))
                self.assertIs(type(found), tuple)

    def test_no_valid_record(self):
        self.assertEqual(counts(IMPOSSIBLE, ("y",)), ())
        never_there = ((table("t", values("s", 2), optional=True),), (("not", ("exists", "t")),))
        self.assertEqual(counts(never_there, ()), ())

    def test_a_number_in_between_may_be_zero(self):
        schema = ((table("t", text("a"), text("b", True)),), (unequal(column("t.b"), NULL),
                                                              unequal(column("t.b"), column("t.a"))))
        self.assertEqual(counts(schema, ()), (0, 0, 1))

    def test_one_more_constant(self):
        for schema in ALL:
            constants = constants_with(schema)
            while many_candidates(schema, len(constants) + 1) <= 300 and len(constants) < 6:
                before = (*counts(schema, constants), 0)
                expected = [before[k] + (k + 1) * before[k + 1] for k in range(len(before) - 1)]
                constants = constants_with(schema, *constants, f"m{len(constants)}")
                self.assertEqual(counts(schema, constants), tuple(expected))

    def test_too_many(self):
        self.assertEqual(raised_text(counts, VALUES_301, ()), "TooManyCases(count=301)")


class FromCounts(unittest.TestCase):
    def test_the_sum_of_point_123(self):
        for numbers in ((), (7,), (1, 3, 1), (0, 0, 2), (300, 0, 5, 1), (1,) * 9):
            for many in (0, 1, 4, 300):
                polynomial = from_counts(numbers, many)
                self.assertLess(len(polynomial), 10)
                for n in (0, 1, 5, 299, 300, 305, 1000):
                    expected = 0
                    for k, number in enumerate(numbers):
                        for factor in range(k):
                            number *= n - many - factor
                        expected += number
                    self.assertEqual(value_at(polynomial, n), expected)

    def test_no_zeros_at_the_end(self):
        self.assertEqual(from_counts((), 5), ())
        self.assertEqual(from_counts((4,), 5), (4,))
        self.assertEqual(from_counts((2, 1), 2), (0, 1))

    def test_the_same_for_all_constants(self):
        for schema in ALL:
            constants = constants_with(schema)
            expected = capacity(schema)
            while many_candidates(schema, len(constants)) <= 300 and len(constants) < 6:
                self.assertEqual(from_counts(counts(schema, constants), len(constants)), expected)
                constants = constants_with(schema, *constants, f"m{len(constants)}")


class Capacity(unittest.TestCase):
    def test_the_number_of_the_valid_records(self):
        for schema in ALL:
            found = capacity(schema)
            constants = constants_with(schema)
            for many in range(4):
                texts = constants_with(schema, *NAMES[:many])
                self.assertEqual(value_at(found, len(texts)), len(valid_over(schema, texts)))
            self.assertTrue(found == () or found[-1] > 0, constants)

    def test_no_valid_record(self):
        self.assertEqual(capacity(IMPOSSIBLE), ())
        self.assertEqual(capacity((ONE[0], (("false",),))), ())

    def test_point_124(self):
        self.assertEqual(capacity(PAIR), (0, 0, 1))
        self.assertEqual(added((0, 1), falling(0, 2)), (0, 0, 1))

    def test_without_checks(self):
        for columns, expected in (
            ((text("a"),), (0, 1)), ((values("s", 7),), (7,)), ((text("a", True),), (1, 1)),
            ((values("s", 7, True),), (8,)), ((text("a"), text("b")), (0, 0, 1)),
            ((text("a", True), values("s", 3), text("b")), (0, 3, 3)),
            ((text("a"), text("b"), text("c")), (0, 0, 0, 1)),
        ):
            self.assertEqual(capacity(((table("t", *columns),), ())), expected)
            rest = table("u", text("c"))
            self.assertEqual(capacity(((table("t", *columns), rest), ())), multiplied(expected, (0, 1)))
            more = added(expected, (1,))
            self.assertEqual(capacity(((table("t", *columns, optional=True), rest), ())), multiplied(more, (0, 1)))
            self.assertEqual(capacity(((table("t", *columns, optional=True),), ())), expected)
            optional = table("u", text("c"), optional=True)
            self.assertEqual(capacity(((table("t", *columns, optional=True), optional), ())),
                             added(multiplied(more, (1, 1)), (-1,)))

    def test_a_condition_and_its_negation_add_up(self):
        for schema, check in (
            (FREE_PAIR, unequal(column("t.a"), column("t.b"))), (FREE_PAIR, equal(column("t.a"), X)),
            (TAGGED, ("or", (equal(column("t.b"), ("cell", "k")), equal(column("t.s"), ("cell", ("w1",)))))),
            (SPLIT, ("exists", "q")), (OPTIONAL, equal(column("t.a"), column("u.b"))),
            (ONE, ("true",)), (ONE, ("false",)),
        ):
            both = added(capacity(with_check(schema, check)), capacity(with_check(schema, ("not", check))))
            self.assertEqual(both, capacity(schema))

    def test_it_is_for_the_constants_of_the_schema(self):
        check = unequal(column("t.s"), column("t.s"))
        for many, count in ((299, None), (300, 301)):
            words = [unequal(column("t.a"), ("cell", f"k{number}")) for number in range(many)]
            schema = (ONE[0], (("and", tuple(words)),))
            if count is None:
                self.assertEqual(capacity(schema), (-299, 1))
            else:
                self.assertEqual(raised_text(capacity, schema), f"TooManyCases(count={count})")
        self.assertEqual(raised_text(capacity, (VALUES_301[0], (check,))), "TooManyCases(count=301)")


class RecordsOver(unittest.TestCase):
    def test_in_the_order_of_the_choices(self):
        for schema in ALL:
            for more in ((), ("p",), ("p", "v1")):
                texts = constants_with(schema, *more)
                self.assertEqual(records_over(schema, texts), tuple(valid_over(schema, texts)))

    def test_as_many_as_the_capacity_tells(self):
        for schema in ALL:
            for many in range(4):
                texts = constants_with(schema, *NAMES[:many])
                try:
                    found = records_over(schema, texts)
                except ValueError:
                    continue
                self.assertEqual(len(found), value_at(capacity(schema), len(texts)))
                self.assertEqual(len(set(found)), len(found))

    def test_no_texts(self):
        self.assertEqual(records_over(ONE, ()), ())
        self.assertEqual(records_over(((table("t", text("a", True), values("s", 2)),), ()), ()),
                         (((None, ("w0",)),), ((None, ("w1",)),)))
        self.assertEqual(records_over(((table("t", text("a"), optional=True), table("u", values("s", 1))), ()), ()),
                         ((None, (("w0",),)),))

    def test_null_comes_first(self):
        self.assertEqual(records_over(FREE_PAIR, ("b", "z")),
                         tuple((row,) for row in itertools.product(("b", "z"), (None, "b", "z"))))

    def test_optional_tables_have_no_row_first(self):
        schema = ((table("t", text("a"), optional=True), table("u", text("b"))), ())
        self.assertEqual(records_over(schema, ("p", "q")), (
            (None, ("p",)), (None, ("q",)), (("p",), ("p",)), (("p",), ("q",)), (("q",), ("p",)), (("q",), ("q",))))

    def test_checks(self):
        self.assertEqual(records_over(PAIR, ("p", "q")),
                         ((("p", None),), (("p", "q"),), (("q", None),), (("q", "p"),)))
        self.assertEqual(records_over(IMPOSSIBLE, ("p", "y")), ())

    def test_the_record_without_any_row_is_counted_but_not_listed(self):
        schema = ((table("t", values("s", 299), optional=True),), ())
        found = records_over(schema, ())
        self.assertEqual((len(found), found[0]), (299, ((("w0",),),)))
        schema = ((table("t", values("s", 300), optional=True),), ())
        self.assertEqual(raised_text(records_over, schema, ()), "TooManyCases(count=301)")

    def test_300_records_and_more(self):
        names = tuple(sorted(f"k{number}" for number in range(300)))
        self.assertEqual(records_over(ONE, names), tuple(((name,),) for name in names))
        nullable = ((table("t", text("a", True)),), ())
        self.assertEqual(records_over(nullable, names[:299])[0], ((None,),))
        self.assertEqual(raised_text(records_over, nullable, names), "TooManyCases(count=301)")
        self.assertEqual(raised_text(records_over, FREE_PAIR, names), f"TooManyCases(count={300 * 301})")
        self.assertEqual(len(records_over(FREE_PAIR, names[:16])), 272)
        self.assertEqual(raised_text(records_over, FREE_PAIR, names[:17]), "TooManyCases(count=306)")

    def test_the_number_without_regard_to_the_checks(self):
        never = ("false",)
        self.assertEqual(raised_text(records_over, with_check(VALUES_301, never), ()), "TooManyCases(count=301)")
        self.assertEqual(records_over(with_check(ONE, never), NAMES), ())

    def test_many_choices_that_give_no_record(self):
        wide = table("t", *[values(f"s{number}", 300) for number in range(10)])
        self.assertEqual(records_over(((wide, table("u", text("a"))), ()), ()), ())
        optional = table("t", *wide[2], text("a"), optional=True)
        self.assertEqual(records_over(((optional, table("u", values("s", 2))), ()), ()),
                         ((None, (("w0",),)), (None, (("w1",),))))


class Excess(unittest.TestCase):
    def test_none_over_itself_and_over_an_equal_capacity(self):
        for schema in ALL:
            self.assertIsNone(excess(schema, schema))
        self.assertIsNone(excess(PAIR, ((table("t", text("a"), text("b")),), ())))
        self.assertIsNone(excess(((table("t", text("a"), text("b")),), ()), PAIR))

    def test_over_a_schema_with_more_checks(self):
        fewer = with_check(ONE, unequal(column("t.a"), X))
        self.assertIsNone(excess(fewer, ONE))
        self.assertEqual(excess(ONE, fewer), (1, 1, 0))
        self.assertEqual(excess(with_check(ONE, unequal(column("t.a"), ("cell", "p"))),
                                with_check(fewer, unequal(column("t.a"), ("cell", "q")))), (3, 2, 1))

    def test_n_is_the_number_of_the_different_constants(self):
        # The capacities are n^2 and n - 2: the one is greater for every n, but there are three constants.
        few = with_check(with_check(ONE, unequal(column("t.a"), X)), unequal(column("t.a"), ("cell", "y")))
        more = with_check(PAIR, ("or", (equal(column("t.a"), ("cell", "z")), unequal(column("t.a"), ("cell", "z")),
                                        equal(column("t.a"), X))))
        self.assertEqual((capacity(more), capacity(few)), ((0, 0, 1), (-2, 1)))
        self.assertEqual(excess(more, few), (3, 9, 1))

    def test_n_is_greater_than_the_number_of_constants(self):
        many_values = ((table("t", text("a"), values("s", 20)),), ())
        self.assertIsNone(excess(many_values, PAIR))
        self.assertEqual(excess(PAIR, many_values), (21, 441, 420))
        cubes = ((table("t", text("a"), text("b"), text("c")),), ())
        self.assertEqual(excess(cubes, ((table("t", text("a"), text("b"), values("s", 149)),), ())),
                         (150, 150 ** 3, 150 ** 2 * 149))

    def test_a_lesser_degree_has_no_excess(self):
        large = ((table("t", values("s", 300)),), ())
        self.assertIsNone(excess(large, ONE))
        self.assertEqual(excess(ONE, large), (301, 301, 300))
        self.assertEqual(excess(ONE, IMPOSSIBLE), (1, 1, 0))
        self.assertIsNone(excess(IMPOSSIBLE, ONE))
        self.assertIsNone(excess(IMPOSSIBLE, IMPOSSIBLE))

    def test_it_is_where_it_begins_for_good(self):
        # n^3 and 3 n^2 - 2 n: greater at 1 is the one only from 3 on, they are equal at 0, 1 and 2.
        cubes = ((table("t", text("a"), text("b"), text("c")),), ())
        target = ((table("t", text("a"), text("b"), values("s", 3)),),
                  (("or", (unequal(column("t.a"), column("t.b")), equal(column("t.s"), ("cell", ("w0",))))),))
        self.assertEqual(capacity(target), (0, -2, 3))
        self.assertEqual(excess(cubes, target), (3, 27, 21))

    def test_the_values_are_plain_integers(self):
        self.assertEqual([type(part) for part in excess(FREE_PAIR, ONE)], [int, int, int])

    def test_the_source_s_error_before_the_target_s(self):
        larger = ((table("t", values("s", 300), values("k", 2)),), ())
        self.assertEqual(raised_text(excess, VALUES_301, larger), "TooManyCases(count=301)")
        self.assertEqual(raised_text(excess, larger, VALUES_301), "TooManyCases(count=600)")
        self.assertEqual(raised_text(excess, ONE, VALUES_301), "TooManyCases(count=301)")

    def test_each_schema_for_its_own_constants(self):
        words = tuple([unequal(column("t.a"), ("cell", f"k{number}")) for number in range(299)])
        self.assertIsNone(excess((ONE[0], (("and", words),)), with_check(MIXED, unequal(column("t.a"), X))))


if __name__ == "__main__":
    unittest.main()
