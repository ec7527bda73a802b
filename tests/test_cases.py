"""Candidates one by one, cases and fixtures [80], [82] to [85]."""

import inspect
import itertools
import unittest

from migraproof.cases import cases, each_candidate, fixture
from migraproof.counting import many_candidates
from migraproof.errors import TooManyCases
from migraproof.records import canonical
from migraproof.schemas import constants_of, is_valid
from samples import (FREE_PAIR, IMPOSSIBLE, MIDDLE, MIXED, ONE, OPTIONAL, PAIR, SMALL, SOME_CONSTANTS, SPLIT, TAGGED, X,
                     column, equal, listed, table, text, unequal, valid_over, values)
from support import raised_text

VALUES_300 = ((table("t", values("s", 300)),), ())
VALUES_301 = ((table("t", values("s", 300, True)),), ())
K299 = tuple(sorted(f"k{number}" for number in range(299)))
K300 = tuple(sorted((*K299, "v1")))


def too_many(count):
    return f"TooManyCases(count={count})"


class Point84(unittest.TestCase):
    def test_seven_candidates_two_of_which_are_not_valid(self):
        rows = (("x", None), ("x", "x"), ("x", "v1"), ("v1", None), ("v1", "x"), ("v1", "v1"), ("v1", "v2"))
        self.assertEqual(list(each_candidate(PAIR, ("x",))), [(row,) for row in rows])
        self.assertEqual(cases(PAIR, ("x",)), tuple((row,) for at, row in enumerate(rows) if at not in (1, 5)))


class EachCandidate(unittest.TestCase):
    def test_in_the_order_of_the_choices(self):
        for schema in (*SMALL, ONE, TAGGED, SPLIT):
            for constants in SOME_CONSTANTS:
                if many_candidates(schema, len(constants)) <= 300:
                    with self.subTest(schema=schema, constants=constants):
                        self.assertEqual(list(each_candidate(schema, constants)), listed(schema, constants))

    def test_it_is_a_generator(self):
        self.assertTrue(inspect.isgenerator(each_candidate(PAIR, ())))
        found = each_candidate(PAIR, ())
        self.assertEqual([next(found), next(found), next(found), next(found, None)],
                         [(("v1", None),), (("v1", "v1"),), (("v1", "v2"),), None])

    def test_an_optional_table_has_no_row_first(self):
        schema = ((table("t", values("s", 2), optional=True), table("u", text("a"))), ())
        self.assertEqual(list(each_candidate(schema, ("x",))), [
            (None, ("x",)), (None, ("v1",)), ((("w0",),), ("x",)), ((("w0",),), ("v1",)),
            ((("w1",),), ("x",)), ((("w1",),), ("v1",))])

    def test_the_record_without_any_row_is_a_candidate_if_all_tables_are_optional(self):
        found = list(each_candidate(OPTIONAL, ()))
        self.assertEqual(found[0], (None, None))
        self.assertEqual(found[1], (None, (None, None)))
        self.assertEqual(len(found), many_candidates(OPTIONAL, 0))
        self.assertNotIn((None, None, None), list(each_candidate(MIDDLE, ())))

    def test_null_first_and_then_the_values_in_their_order(self):
        schema = ((("t", False, (("s", ("on", "a", "off"), True), ("k", ("z", "b"), False))),), ())
        self.assertEqual([row for row, in each_candidate(schema, ("x",))],
                         list(itertools.product((None, ("on",), ("a",), ("off",)), (("z",), ("b",)))))

    def test_constants_that_look_like_sample_texts(self):
        self.assertEqual([row for row, in each_candidate(FREE_PAIR, ("v1", "v3"))], [
            ("v1", None), ("v1", "v1"), ("v1", "v3"), ("v1", "v2"),
            ("v3", None), ("v3", "v1"), ("v3", "v3"), ("v3", "v2"),
            ("v2", None), ("v2", "v1"), ("v2", "v3"), ("v2", "v2"), ("v2", "v4")])

    def test_values_that_look_like_sample_texts(self):
        schema = ((table("t", ("s", ("v1", "v2"), False), text("a")),), ())
        self.assertEqual(list(each_candidate(schema, ())), [((("v1",), "v1"),), ((("v2",), "v1"),)])

    def test_the_sample_texts_of_earlier_tables_can_occur_again(self):
        schema = ((table("t", text("a")), table("u", text("b"), text("c"))), ())
        self.assertEqual(list(each_candidate(schema, ())), [
            (("v1",), ("v1", "v1")), (("v1",), ("v1", "v2")), (("v1",), ("v2", "v1")), (("v1",), ("v2", "v2")),
            (("v1",), ("v2", "v3"))])

    def test_300_are_listed(self):
        self.assertEqual(list(each_candidate(VALUES_300, ())), [((value,),) for value in
                                                                [(f"w{number}",) for number in range(300)]])
        self.assertEqual(list(each_candidate(ONE, K299)), [((name,),) for name in (*K299, "v1")])

    def test_301_are_refused_when_the_first_one_is_asked_for(self):
        for schema, constants in ((VALUES_301, ()), (VALUES_301, ("x",)), (ONE, K300)):
            found = each_candidate(schema, constants)
            with self.assertRaises(TooManyCases) as caught:
                next(found)
            self.assertEqual(caught.exception.count, 301)
            self.assertIs(type(caught.exception.count), int)

    def test_very_many_are_refused_at_once(self):
        twenty = ((table("t", *[values(f"s{number}", 300) for number in range(20)]),), ())
        with self.assertRaises(TooManyCases) as caught:
            list(each_candidate(twenty, ()))
        self.assertEqual(caught.exception.count, 300 ** 20)

    def test_seventeen_columns_and_seven_tables(self):
        tables = [table("t0", *[text(f"a{number}") for number in range(4)], values("s", 1))]
        tables += [table(f"t{place}", values("s", 1), values("k", 1), optional=place > 4) for place in range(1, 7)]
        schema = (tuple(tables), ())
        self.assertEqual(many_candidates(schema, 0), 60)
        self.assertEqual(list(each_candidate(schema, ())), listed(schema, ()))

    def test_the_checks_play_no_part(self):
        self.assertEqual(list(each_candidate(IMPOSSIBLE, ("y",))), [(("y",),), (("v1",),)])


class Cases(unittest.TestCase):
    def test_they_are_the_valid_candidates_in_order(self):
        for schema in (*SMALL, ONE, TAGGED, SPLIT, IMPOSSIBLE):
            for more in SOME_CONSTANTS:
                constants = tuple(sorted({*constants_of(schema), *more}))
                if many_candidates(schema, len(constants)) <= 300:
                    expected = [record for record in listed(schema, constants) if is_valid(schema, record)]
                    self.assertEqual(cases(schema, constants), tuple(expected))

    def test_every_valid_record_is_similar_to_exactly_one(self):
        for schema in (PAIR, OPTIONAL, TAGGED, SPLIT):
            constants = tuple(sorted({*constants_of(schema), "v2"}))
            found = cases(schema, constants)
            self.assertEqual(len(set(found)), len(found))
            records = valid_over(schema, (*constants, "p", "q", "v1"))
            self.assertEqual({canonical(record, constants) for record in records}, set(found))

    def test_the_record_without_any_row_is_no_case(self):
        self.assertNotIn((None, None), cases(OPTIONAL, ()))
        self.assertEqual(len(cases(OPTIONAL, ())), many_candidates(OPTIONAL, 0) - 1)

    def test_there_may_be_none(self):
        self.assertEqual(cases(IMPOSSIBLE, ("y",)), ())

    def test_too_many_candidates_even_if_few_are_cases(self):
        few = (VALUES_301[0], (equal(column("t.s"), ("cell", ("w0",))),))
        self.assertEqual(raised_text(cases, few, ()), too_many(301))
        self.assertEqual(raised_text(cases, ONE, K300), too_many(301))
        self.assertEqual(cases((VALUES_300[0], few[1]), ()), (((("w0",),),),))
        self.assertEqual(len(cases(ONE, K299)), 300)


class Fixture(unittest.TestCase):
    SOURCE = (ONE[0], (unequal(column("t.a"), ("cell", "s")),))
    TARGET = (ONE[0], (unequal(column("t.a"), ("cell", "b")), unequal(column("t.a"), X)))

    def test_the_constants_of_both_schemas_and_the_own_texts(self):
        self.assertEqual(fixture(self.SOURCE, self.TARGET),
                         (("b", "s", "x"), ((("b",),), (("x",),), (("v1",),))))
        self.assertEqual(fixture(self.SOURCE, self.TARGET, own=("v1", "a")),
                         (("a", "b", "s", "v1", "x"), ((("a",),), (("b",),), (("v1",),), (("x",),), (("v2",),))))

    def test_own_texts_in_any_order_twice_and_constants_of_a_schema(self):
        expected = fixture(self.SOURCE, self.TARGET, own=("a", "c"))
        for own in (("c", "a"), ("c", "a", "c", "a"), ("s", "c", "x", "a", "b"), ("a", "a", "c")):
            self.assertEqual(fixture(self.SOURCE, self.TARGET, own=own), expected)
        self.assertEqual(fixture(self.SOURCE, self.TARGET, own=("x", "s", "s")), fixture(self.SOURCE, self.TARGET))

    def test_no_own_texts(self):
        self.assertEqual(fixture(PAIR, ONE), ((), ((("v1", None),), (("v1", "v2"),))))
        self.assertEqual(fixture(PAIR, ONE, own=()), fixture(PAIR, ONE))

    def test_the_records_are_those_of_the_source(self):
        constants, records = fixture(TAGGED, SPLIT, own=("m",))
        self.assertEqual(constants, ("m", "x"))
        self.assertEqual(records, cases(TAGGED, constants))

    def test_300_and_301(self):
        self.assertEqual(len(fixture(ONE, VALUES_300, own=K299)[1]), 300)
        self.assertEqual(fixture(VALUES_300, ONE, own=K299)[1], cases(VALUES_300, ()))
        self.assertEqual(raised_text(fixture, ONE, VALUES_300, own=K300), too_many(301))
        self.assertEqual(raised_text(fixture, VALUES_300, ONE, own=K300), too_many(301))
        self.assertEqual(raised_text(fixture, VALUES_301, ONE), too_many(301))
        self.assertEqual(raised_text(fixture, ONE, VALUES_301), too_many(301))

    def test_the_source_before_the_target(self):
        larger = ((table("t", values("s", 300), values("k", 2)),), ())
        self.assertEqual(raised_text(fixture, VALUES_301, larger), too_many(301))
        self.assertEqual(raised_text(fixture, larger, VALUES_301), too_many(600))
        self.assertEqual(raised_text(fixture, MIXED, ONE, own=("a", "b", "c", "d")),
                         too_many(many_candidates(MIXED, 4)))

    def test_the_constants_of_the_target_count_for_the_source(self):
        checks = tuple(unequal(column("t.a"), ("cell", name)) for name in ("p", "q", "r", "s"))
        target = (ONE[0], checks)
        self.assertGreater(many_candidates(MIXED, 4), 300)
        self.assertEqual(raised_text(fixture, MIXED, target), too_many(many_candidates(MIXED, 4)))


if __name__ == "__main__":
    unittest.main()
