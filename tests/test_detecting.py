"""Sufficient test data [183]."""

import itertools
import random
import unittest

from migraproof.cases import fixture
from migraproof.counting import many_candidates
from migraproof.detecting import undetected
from migraproof.migrations import reduced, result
from migraproof.records import canonical, renamed
from migraproof.schemas import has_shape, is_valid
from samples import (FREE_PAIR, IMPOSSIBLE, MIXED, ONE, OPTIONAL, PAIR, SPLIT, TAGGED, X, column, table, text, texts_in,
                     unequal, values)
from support import raised_text

A = column("t.a")
NO_X = (ONE[0], (unequal(A, X),))
WIDE = ((table("t", *[text(name) for name in "abcd"]),), ())
FLAGGED = ((table("p", text("c"), values("s", 2)), table("q", text("d", True), optional=True)), ())
SCHEMAS = (ONE, PAIR, FREE_PAIR, OPTIONAL, TAGGED, SPLIT, FLAGGED)


def renamed_at_random(rng, record, constants):
    """A record that is similar to this one, with quite other texts."""
    texts = [name for name in texts_in(record) if name not in constants]
    pool = [name for name in ("p", "q", "r", "v1", "v2", "v3", "", "c1", "zz") if name not in constants]
    return renamed(record, tuple(zip(texts, rng.sample(pool, len(texts)))))


def nulls_of(target):
    return tuple((None,) * len(columns) for _, _, columns in target[0])


class Undetected(unittest.TestCase):
    def check(self, source, target, records, own, place):
        """The record of the fixture with this number is the first one that is missing; None if none is."""
        found = undetected(source, target, records, own=own)
        constants, needed = fixture(source, target, own=own)
        if place is None:
            self.assertIsNone(found)
            return
        first, second, m = found
        self.assertEqual(m, needed[place])
        for migration in (first, second):
            self.assertEqual(migration[:2], (source, target))
            self.assertEqual(reduced(migration), migration)
        for record in needed:
            self.assertIsNone(result(first, record))
            self.assertEqual(result(second, record), nulls_of(target) if record == m else None)
        for record in records:
            self.assertEqual(result(first, record), result(second, record))
        self.assertNotEqual(result(first, m), result(second, m))

    def test_the_fixture_itself_is_sufficient_and_no_part_of_it(self):
        for source, target, own in itertools.product(SCHEMAS, SCHEMAS, ((), ("k",))):
            records = fixture(source, target, own=own)[1]
            if len(records) <= 60:
                self.check(source, target, records, own, None)
                for place in (0, len(records) // 2, len(records) - 1):
                    self.check(source, target, (*records[:place], *records[place + 1:]), own, place)

    def test_no_records_at_all(self):
        for source, target, own in itertools.product(SCHEMAS, SCHEMAS, ((), ("k", "a"))):
            self.check(source, target, (), own, 0)

    def test_similar_records_with_other_texts_in_another_order_and_more_than_needed(self):
        rng = random.Random(1)
        found = []
        for source, target, own in itertools.product(SCHEMAS, (ONE, TAGGED, FLAGGED), ((), ("k",), ("v1", "x"))):
            constants, needed = fixture(source, target, own=own)
            for _ in range(3):
                missing = set(rng.sample(range(len(needed)), rng.choice((0, 0, 1, min(3, len(needed))))))
                rest = [record for place, record in enumerate(needed) if place not in missing]
                records = [renamed_at_random(rng, record, constants) for record in rest * 2][:60]
                if len(rest) > 60:
                    continue
                records = [*records, *[record for record in rest if not any(
                    canonical(record, constants) == canonical(other, constants) for other in records)]][:60]
                rng.shuffle(records)
                self.assertTrue(all(is_valid(source, record) for record in records))
                covered = {canonical(record, constants) for record in records}
                absent = [place for place, record in enumerate(needed) if record not in covered]
                self.check(source, target, tuple(records), own, absent[0] if absent else None)
                found.append(bool(absent))
        self.assertGreater(min(found.count(True), found.count(False)), 10)

    def test_the_first_record_that_is_missing(self):
        self.check(FREE_PAIR, ONE, ((("p", "q"),),), (), 0)
        self.check(FREE_PAIR, ONE, ((("p", "q"),), (("q", None),)), (), 1)
        self.check(FREE_PAIR, ONE, ((("p", "p"),), (("q", None),)), (), 2)
        self.check(FREE_PAIR, ONE, ((("p", "p"),), (("q", None),), (("v2", "v1"),)), (), None)

    def test_own_texts_in_any_order_and_twice(self):
        records = ((("b",),), (("a",),), (("",),))
        self.assertIsNone(undetected(ONE, ONE, records, own=("b", "a", "b")))
        self.check(ONE, ONE, records, ("b", "a", "b", "a"), None)
        self.check(ONE, ONE, records[1:], ("b", "a", "b"), 1)
        self.check(ONE, ONE, records[:2], ("b", "a", "b"), 2)
        self.assertEqual(undetected(ONE, ONE, records, own=("c", "b"))[2], (("c",),))
        self.assertEqual(undetected(ONE, ONE, records, own=("v1",))[2], (("v1",),))
        self.assertEqual(undetected(ONE, ONE, ((("v1",),),), own=("v1",))[2], (("v2",),))

    def test_constants_of_a_schema(self):
        self.check(ONE, NO_X, ((("p",),),), (), 0)
        self.assertEqual(undetected(ONE, NO_X, ((("p",),),))[2], (("x",),))
        self.check(ONE, NO_X, ((("p",),), (("x",),)), (), None)
        self.check(ONE, NO_X, ((("p",),), (("x",),)), ("x",), None)
        self.check(NO_X, ONE, ((("p",),),), (), None)
        self.check(NO_X, ONE, ((("p",),),), ("k", "x"), 0)

    def test_the_two_migrations(self):
        self.assertEqual(undetected(ONE, NO_X, ()), (
            (ONE, NO_X, ("x",), (None, None)), (ONE, NO_X, ("x",), (((None,),), None)), (("x",),)))
        # The own text is not needed if all other records are dropped by the second migration as well.
        self.assertEqual(undetected(ONE, FLAGGED, ((("k",),),), own=("k",)), (
            (ONE, FLAGGED, (), (None,)), (ONE, FLAGGED, ("k",), (None, ((None, None), (None,)))), (("v1",),)))
        pairs = ((("p", None),), (("q", "p"),))
        self.assertEqual(undetected(FREE_PAIR, ONE, pairs), (
            (FREE_PAIR, ONE, (), (None,) * 3), (FREE_PAIR, ONE, (), (None, ((None,),), None)), (("v1", "v1"),)))

    def test_a_target_whose_columns_are_not_nullable(self):
        for target in (ONE, FLAGGED, MIXED):
            second = undetected(ONE, target, ())[1]
            given = second[3][0]
            self.assertEqual(given, nulls_of(target))
            self.assertTrue(has_shape(target, given))
            self.assertFalse(is_valid(target, given))

    def test_a_source_without_valid_records(self):
        self.assertIsNone(undetected(IMPOSSIBLE, ONE, ()))
        self.assertIsNone(undetected(IMPOSSIBLE, ONE, (), own=("k",)))

    def test_too_many_cases(self):
        other = ((table("t", text("a"), text("b", True), text("c", True), values("s", 4)),), ())
        for source, target, first in ((WIDE, ONE, WIDE), (ONE, WIDE, WIDE), (WIDE, other, WIDE), (other, WIDE, other)):
            own = ("k", "m", "k", "x")
            expected = f"TooManyCases(count={many_candidates(first, 3)})"
            self.assertEqual(raised_text(undetected, source, target, (), own=own), expected)
            self.assertEqual(raised_text(fixture, source, target, own=own), expected)


if __name__ == "__main__":
    unittest.main()
