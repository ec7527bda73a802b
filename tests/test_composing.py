"""One migration followed by another one [169]."""

import itertools
import random
import unittest

from migraproof.cases import cases
from migraproof.composing import followed_by
from migraproof.counting import many_candidates
from migraproof.migrations import compiled, from_results, identity, migrated, reduced, result
from migraproof.schemas import constants_of, is_valid
from samples import (FREE_PAIR, IMPOSSIBLE, NULL, ONE, OPTIONAL, PAIR, SPLIT, TAGGED, X, column, equal,
                     random_valid_results, set_a, table, text, unequal, valid_over, values)
from support import raised_text

A, B = column("t.a"), column("t.b")
Y = ("cell", "y")
TWO = ((table("t", text("a"), text("b")),), ())


def replacing(old, new):
    """The migration that gives new for old and any other text as it is."""
    return compiled(ONE, ONE, (set_a(("if", ((equal(A, ("cell", old)), ("cell", new)),), A)),))


def dropping(*names):
    """The migration that drops these texts."""
    return compiled(ONE, ONE, (*[("drop", equal(A, ("cell", name))) for name in names], set_a(A)))


def random_migration(rng, source, target, own):
    """A migration with valid results."""
    constants = tuple(sorted({*constants_of(source), *constants_of(target), *own}))
    results = random_valid_results(rng, target, constants, cases(source, constants))
    return from_results(source, target, results, own=own)


class Effect(unittest.TestCase):
    def test_one_behind_the_other(self):
        rng = random.Random(13)
        for source, middle, target in ((PAIR, SPLIT, ONE), (ONE, FREE_PAIR, TAGGED), (TAGGED, OPTIONAL, FREE_PAIR),
                                       (FREE_PAIR, PAIR, SPLIT)):
            for own, other in (((), ()), (("k",), ()), (("k",), ("m", "x")), (("x",), ("v1",))):
                first = random_migration(rng, source, middle, own)
                second = random_migration(rng, middle, target, other)
                both = followed_by(first, second)
                self.assertEqual(both[:2], (source, target))
                self.assertEqual(reduced(both), both)
                for record in valid_over(source, ("k", "m", "x", "v1", "p")):
                    between = result(first, record)
                    expected = None if between is None else result(second, between)
                    self.assertEqual(result(both, record), expected)

    def test_a_record_that_the_first_migration_drops(self):
        self.assertEqual(followed_by(dropping("x"), replacing("x", "y")), dropping("x"))
        self.assertEqual(followed_by(dropping("x"), identity(ONE)), dropping("x"))

    def test_a_record_that_only_the_second_one_drops(self):
        found = followed_by(replacing("x", "y"), dropping("y"))
        self.assertEqual(found, dropping("x", "y"))
        self.assertEqual(followed_by(dropping("x"), dropping("y")), dropping("x", "y"))

    def test_constants_that_only_one_of_the_two_has(self):
        found = followed_by(replacing("x", "y"), replacing("k", "m"))
        self.assertEqual(found[2:], (("k", "m", "x", "y"), ((("m",),), (("m",),), (("y",),), (("y",),), (("v1",),))))
        self.assertEqual(followed_by(replacing("x", "y"), identity(ONE)), replacing("x", "y"))

    def test_constants_that_are_not_needed_any_more(self):
        all_to = compiled(ONE, ONE, (set_a(("cell", "z")),))
        self.assertEqual(followed_by(replacing("x", "y"), all_to), all_to)
        there = compiled(ONE, TWO, (set_a(A), ("set", "t", "b", ("if", ((equal(A, X), Y),), A))))
        back = compiled(TWO, ONE, (set_a(A),))
        self.assertEqual(followed_by(there, back), identity(ONE))

    def test_the_constants_of_the_schema_in_between_need_not_remain(self):
        checked = (ONE[0], (("or", (equal(A, X), unequal(A, X))),))
        there, back = compiled(ONE, checked, (set_a(A),)), compiled(checked, ONE, (set_a(A),))
        self.assertEqual((there[2], back[2]), (("x",), ("x",)))
        self.assertEqual(followed_by(there, back), identity(ONE))
        self.assertEqual(followed_by(back, there), identity(checked))

    def test_the_identity_on_either_side(self):
        rng = random.Random(14)
        for source, target in itertools.permutations((ONE, PAIR, TAGGED, SPLIT), 2):
            migration = random_migration(rng, source, target, ("k",))
            self.assertEqual(followed_by(identity(source), migration), migration)
            self.assertEqual(followed_by(migration, identity(target)), migration)

    def test_three_migrations_joined_in_both_ways(self):
        rng = random.Random(15)
        for schemas in ((ONE, PAIR, TAGGED, SPLIT), (SPLIT, FREE_PAIR, ONE, ONE), (TAGGED, TAGGED, PAIR, OPTIONAL)):
            first, second, third = [random_migration(rng, *pair, own) for pair, own in
                                    zip(itertools.pairwise(schemas), (("k",), (), ("m",)))]
            self.assertEqual(followed_by(followed_by(first, second), third),
                             followed_by(first, followed_by(second, third)))

    def test_databases(self):
        rng = random.Random(16)
        first, second = random_migration(rng, TAGGED, PAIR, ("k",)), random_migration(rng, PAIR, SPLIT, ())
        records = rng.sample(valid_over(TAGGED, ("k", "x", "p")), 8)
        database = tuple((f"key{number}", record) for number, record in enumerate(records))
        self.assertEqual(migrated(followed_by(first, second), database), migrated(second, migrated(first, database)))

    def test_the_second_one_may_have_results_that_are_not_valid(self):
        nulls = compiled(ONE, ONE, (set_a(NULL),))
        self.assertEqual(followed_by(replacing("x", "y"), nulls), nulls)

    def test_no_cases(self):
        nothing = from_results(IMPOSSIBLE, ONE, ())
        self.assertEqual(followed_by(nothing, dropping("x")), nothing)
        to_nothing = compiled(ONE, IMPOSSIBLE, (("drop", ("true",)), set_a(A)))
        self.assertEqual(followed_by(to_nothing, nothing), from_results(ONE, ONE, (None,)))


class Errors(unittest.TestCase):
    def check_many(self, first, second, schema):
        """The candidates of this schema for three constants are too many for the two migrations."""
        count = many_candidates(schema, 3)
        self.assertGreater(count, 300)
        self.assertEqual(raised_text(followed_by, first, second), f"TooManyCases(count={count})")

    WIDE = ((table("t", *[text(name) for name in "abcd"]),), ())

    def wide(self, *names):
        """The migration of the wide schema that drops the records in which a is one of the texts."""
        sets = tuple(("set", "t", name, column(f"t.{name}")) for name in "abcd")
        return compiled(self.WIDE, self.WIDE, (*[("drop", equal(A, ("cell", name))) for name in names], *sets))

    def narrow(self, source, target, *names):
        """The migration that drops the records in which a is one of the texts, and copies a to all columns."""
        sets = tuple(("set", "t", name, A) for name, _, _ in target[0][0][2])
        return compiled(source, target, (*[("drop", equal(A, ("cell", name))) for name in names], *sets))

    def test_the_schemas_differ(self):
        for first, second in ((identity(ONE), identity(PAIR)), (identity(PAIR), identity(FREE_PAIR)),
                              (compiled(ONE, TWO, (set_a(A), ("set", "t", "b", A))), identity(ONE))):
            self.assertEqual(raised_text(followed_by, first, second), "SchemasDiffer()")
        nulls = compiled(ONE, ONE, (set_a(NULL),))
        self.assertEqual(raised_text(followed_by, nulls, identity(PAIR)), "SchemasDiffer()")
        self.assertEqual(raised_text(followed_by, self.wide("k", "m"), self.narrow(TWO, ONE, "x")), "SchemasDiffer()")

    def test_invalid_results(self):
        target = (ONE[0], (unequal(A, X),))
        valid = from_results(ONE, target, (None, (("v1",),)))
        self.assertEqual((valid[2], followed_by(valid, identity(target))), (("x",), valid))
        for results, own, place in (
            (((("x",),), None), (), 0), ((None, (("x",),)), (), 1), ((((None,),), (("x",),)), (), 0),
            (((("k",),), (("x",),), None), ("k",), 1), (((("k",),), (("k",),), ((None,),)), ("k",), 2),
        ):
            first = from_results(ONE, target, results, own=own)
            self.assertEqual(raised_text(followed_by, first, identity(target)), f"InvalidResults(place={place})")
            self.assertFalse(is_valid(target, first[3][place]))

    def test_the_place_is_that_among_the_migration_s_own_cases(self):
        first = compiled(ONE, PAIR, (set_a(A), ("set", "t", "b", A)))
        second = compiled(PAIR, ONE, (("drop", equal(B, X)), ("drop", equal(A, Y)), set_a(A)))
        self.assertEqual(raised_text(followed_by, first, second), "InvalidResults(place=0)")

    def test_invalid_results_before_too_many_cases(self):
        drops = [("drop", equal(B, ("cell", name))) for name in ("k", "m")]
        nulls = compiled(self.WIDE, ONE, (*drops, set_a(NULL)))
        second = self.narrow(ONE, self.WIDE, "x", "y")
        place = next(number for number, case in enumerate(cases(self.WIDE, ("k", "m"))) if case[0][1] == "v1")
        self.assertEqual(raised_text(followed_by, nulls, second), f"InvalidResults(place={place})")

    def test_too_many_cases_of_the_source_of_the_first(self):
        first, second = self.narrow(self.WIDE, ONE, "k", "m"), self.narrow(ONE, ONE, "k", "x")
        self.assertLessEqual(many_candidates(self.WIDE, 2), 300)
        self.check_many(first, second, self.WIDE)
        self.assertEqual(followed_by(first, dropping("k", "m")), first)

    def test_too_many_cases_of_the_schema_in_between(self):
        first, second = self.narrow(ONE, self.WIDE, "k", "m"), self.narrow(self.WIDE, ONE, "k", "x")
        self.check_many(first, second, self.WIDE)

    def test_too_many_cases_of_the_target_of_the_second(self):
        first, second = dropping("k", "m"), self.narrow(ONE, self.WIDE, "k", "x")
        self.check_many(first, second, self.WIDE)

    def test_their_order(self):
        other = ((table("t", text("a"), text("b", True), text("c", True), values("s", 4)),), ())
        third = ((table("t", text("a"), text("b"), text("c"), values("s", 5)),), ())
        self.assertEqual(len({many_candidates(schema, 3) for schema in (self.WIDE, other, third)}), 3)

        def between(source, target, *names):
            sets = tuple(("set", "t", name, A if kind == "text" else ("cell", ("w0",)))
                         for name, kind, _ in target[0][0][2])
            return compiled(source, target, (*[("drop", equal(A, ("cell", name))) for name in names], *sets))

        for source, middle, target in itertools.permutations((self.WIDE, other, third)):
            first, second = between(source, middle, "k"), between(middle, target, "m", "x")
            self.check_many(first, second, source)
            first, second = between(ONE, middle, "k"), between(middle, target, "m", "x")
            self.check_many(first, second, middle)


if __name__ == "__main__":
    unittest.main()
