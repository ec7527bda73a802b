"""Comparing migrations, the evidence about them, and inverses [180] to [182]."""

import itertools
import random
import unittest

from migraproof.analysis import analyze, compare_migrations, inverse, is_lossless
from migraproof.cases import cases
from migraproof.composing import followed_by
from migraproof.counting import many_candidates
from migraproof.migrations import compiled, examples, from_results, identity, reduced, result
from migraproof.records import canonical
from migraproof.recovery import is_collision
from migraproof.schemas import is_valid
from samples import (FREE_PAIR, IMPOSSIBLE, LETTERS, NULL, ONE, OPTIONAL, PAIR, SPLIT, TAGGED, TAGS, X, choose, column,
                     dropping, equal, random_migration, results_of, set_a, set_b, table, text, texts_in, unequal,
                     valid_over, values)
from searches import first_collision
from support import raised_text

A, B = column("t.a"), column("t.b")
Y = ("cell", "y")
TWO = ((table("t", text("a"), text("b")),), ())
NO_X = (ONE[0], (unequal(A, X),))
WIDE = ((table("t", *[text(name) for name in "abcd"]),), ())
OTHER_WIDE = ((table("t", text("a"), text("b", True), text("c", True), values("s", 4)),), ())
SCHEMAS = (ONE, PAIR, FREE_PAIR, TAGGED, SPLIT, TAGS)


def turned(schema):
    """The migration that exchanges the columns a and b."""
    return compiled(schema, schema, (set_a(B), set_b(A)))


def replacing(*pairs):
    """The migration of one text that replaces the first texts of the pairs by the second ones."""
    return compiled(ONE, ONE, (set_a(choose(*[(equal(A, ("cell", old)), ("cell", new)) for old, new in pairs],
                                            otherwise=A)),))


class CompareMigrations(unittest.TestCase):
    def test_equal_migrations(self):
        rng = random.Random(1)
        for source, target in itertools.product(SCHEMAS, SCHEMAS):
            migration = random_migration(rng, source, target, ("k",), False)
            self.assertIsNone(compare_migrations(migration, migration))
        nothing = from_results(IMPOSSIBLE, ONE, ())
        self.assertIsNone(compare_migrations(nothing, nothing))

    def test_the_same_effect_in_other_words(self):
        other = compiled(ONE, ONE, (set_a(choose((equal(A, X), X), otherwise=A)),))
        self.assertIsNone(compare_migrations(other, identity(ONE)))

    def test_they_differ_in_the_first_case(self):
        migration = from_results(TWO, ONE, ((("v1",),), (("v1",),)))
        other = from_results(TWO, ONE, (None, (("v1",),)))
        self.assertEqual(compare_migrations(migration, other), ((("v1", "v1"),), (("v1",),), None))
        self.assertEqual(compare_migrations(other, migration), ((("v1", "v1"),), None, (("v1",),)))

    def test_they_differ_in_a_later_case_and_in_the_last_one(self):
        self.assertEqual(compare_migrations(identity(TWO), turned(TWO)),
                         ((("v1", "v2"),), (("v1", "v2"),), (("v2", "v1"),)))
        own_cases = cases(TWO, ("x",))
        self.assertEqual(len(own_cases), 5)
        results = tuple((("x", name),) for name in ("x", "x", "x", "x", "x"))
        migration = from_results(TWO, TWO, results, own=("x",))
        for place in range(5):
            other = from_results(TWO, TWO, (*results[:place], None, *results[place + 1:]), own=("x",))
            self.assertEqual(compare_migrations(migration, other), (own_cases[place], results[place], None))
            self.assertEqual(compare_migrations(other, migration), (own_cases[place], None, results[place]))

    def test_constants_that_only_one_of_the_two_has(self):
        self.assertEqual(compare_migrations(replacing(("x", "y")), identity(ONE)), ((("x",),), (("y",),), (("x",),)))
        self.assertEqual(compare_migrations(dropping(ONE, ONE, "m"), dropping(ONE, ONE, "k")),
                         ((("k",),), (("k",),), None))
        # For the constants of both the first sample text is v3.
        first = replacing(("v1", "y"))
        second = compiled(ONE, ONE, (set_a(choose((equal(A, ("cell", "v2")), A), otherwise=Y)),))
        self.assertEqual((first[2], second[2]), (("v1", "y"), ("v2", "y")))
        self.assertEqual(compare_migrations(first, second), ((("v3",),), (("v3",),), (("y",),)))

    def test_the_first_case_on_which_they_differ(self):
        rng = random.Random(2)
        kinds = set()
        for source, target, own in itertools.product(SCHEMAS[:5], (FREE_PAIR, SPLIT), ((), ("k",), ("v1", "x"))):
            first = random_migration(rng, source, target, own, False)
            for second in (random_migration(rng, source, target, ("m",), False), first):
                constants = tuple(sorted({*first[2], *second[2]}))
                differing = [(case, result(first, case), result(second, case)) for case in cases(source, constants)
                             if result(first, case) != result(second, case)]
                self.assertEqual(compare_migrations(first, second), differing[0] if differing else None)
                kinds.add(bool(differing))
                records = valid_over(source, (*constants, "p", "q"))
                self.assertEqual(results_of(first, records) == results_of(second, records), not differing)
        self.assertEqual(kinds, {True, False})

    def test_the_schemas_differ(self):
        for first, second in ((identity(ONE), identity(TWO)), (dropping(ONE, TWO), dropping(ONE, ONE)),
                              (dropping(ONE, TWO), dropping(PAIR, TWO)), (identity(PAIR), identity(FREE_PAIR))):
            self.assertEqual(raised_text(compare_migrations, first, second), "SchemasDiffer()")
        self.assertEqual(raised_text(compare_migrations, dropping(WIDE, ONE, "k", "m"), dropping(WIDE, TWO, "x")),
                         "SchemasDiffer()")
        self.assertEqual(raised_text(compare_migrations, dropping(ONE, WIDE, "k", "m"), dropping(TWO, WIDE, "x")),
                         "SchemasDiffer()")

    def test_too_many_cases_of_the_source_before_the_target(self):
        for source, target, first in ((WIDE, ONE, WIDE), (ONE, WIDE, WIDE), (WIDE, OTHER_WIDE, WIDE),
                                      (OTHER_WIDE, WIDE, OTHER_WIDE)):
            migration, other = dropping(source, target, "k"), dropping(source, target, "m", "x")
            self.assertLessEqual(many_candidates(first, 2), 300)
            self.assertEqual(raised_text(compare_migrations, migration, other),
                             f"TooManyCases(count={many_candidates(first, 3)})")


class Evidence(unittest.TestCase):
    def check(self, migration, invalid, collision, unreached):
        with self.subTest(migration=migration):
            self.assertEqual(analyze(migration), (invalid, collision, unreached))
            self.assertEqual(is_lossless(migration), invalid is None and collision is None)
            if (invalid, collision, unreached) != (None, None, None):
                self.assertIsNone(inverse(migration))

    def test_each_part_alone(self):
        self.check(identity(PAIR), None, None, None)
        self.check(dropping(ONE, TWO), None, None, (("v1", "v2"),))
        self.check(compiled(TWO, ONE, (set_a(A),)), None, ((("v1", "v2"),), (("v1", "v3"),)), None)
        to_pair = compiled(FREE_PAIR, PAIR, (set_a(A), set_b(B)))
        self.check(to_pair, ((("v1", "v1"),), (("v1", "v1"),)), None, None)

    def test_two_parts_and_all_of_them(self):
        target = (TWO[0], (unequal(A, B),))
        doubled = dropping(ONE, target)
        self.check(doubled, ((("v1",),), (("v1", "v1"),)), None, (("v1", "v2"),))
        tags = dropping(ONE, TAGS)
        self.check(tags, None, ((("v1",),), (("v2",),)), ((("w1",),),))
        nulls = compiled(TWO, FREE_PAIR, (set_a(choose((equal(A, B), NULL), otherwise=A)), set_b(NULL)))
        self.check(nulls, ((("v1", "v1"),), ((None, None),)), ((("v1", "v1"),), (("v2", "v2"),)), (("v1", "v1"),))
        some = compiled(TWO, LETTERS, (("set", "u", "c", choose((equal(A, B), A), otherwise=NULL)),))
        self.check(some, ((("v1", "v2"),), ((None,),)), ((("v1", "v2"),), (("v3", "v2"),)), None)

    def test_an_invalid_result_that_is_not_the_first_one(self):
        migration = from_results(ONE, ONE, ((("k",),), None, ((None,),), ((None,),)), own=("k", "m", "x"))
        self.assertEqual(migration[2], ("k", "m"))
        self.assertEqual(analyze(migration)[0], ((("v1",),), ((None,),)))
        to_no_x = compiled(ONE, NO_X, (("drop", equal(A, Y)), set_a(A)))
        self.assertEqual(examples(to_no_x)[:2], (((("x",),), (("x",),)), ((("y",),), None)))
        self.check(to_no_x, ((("x",),), (("x",),)), ((("y",),), None), (("y",),))
        later = compiled(ONE, NO_X, (("drop", equal(A, ("cell", "k"))), set_a(A)))
        self.check(later, ((("x",),), (("x",),)), ((("k",),), None), (("k",),))

    def test_a_collision_by_the_first_rule(self):
        self.check(dropping(ONE, ONE, "k"), None, ((("k",),), None), (("k",),))
        self.check(compiled(TWO, ONE, (("drop", equal(A, B)), set_a(NULL))),
                   ((("v1", "v2"),), ((None,),)), ((("v1", "v1"),), None), (("v1",),))

    def test_a_collision_by_the_second_rule(self):
        self.check(compiled(PAIR, ONE, (set_a(A),)), None, ((("v1", "v2"),), (("v1", "v3"),)), None)
        self.check(compiled(PAIR, NO_X, (set_a(A),)), ((("x", None),), (("x",),)),
                   ((("x", "v1"),), (("x", "v2"),)), None)
        self.check(compiled(ONE, ONE, (set_a(NULL),)), ((("v1",),), ((None,),)), ((("v1",),), (("v2",),)), (("v1",),))

    def test_a_collision_by_the_third_rule(self):
        self.check(replacing(("x", "y")), None, ((("x",),), (("y",),)), (("x",),))
        filled = compiled(FREE_PAIR, TWO, (set_a(A), set_b(choose((equal(B, NULL), A), otherwise=B))))
        self.check(filled, None, ((("v1", None),), (("v1", "v1"),)), None)
        unlike = (TWO[0], (unequal(A, B),))
        other = compiled(FREE_PAIR, unlike, (set_a(A), set_b(choose((equal(B, NULL), A), otherwise=B))))
        self.check(other, ((("v1", None),), (("v1", "v1"),)), ((("v1", None),), (("v1", "v1"),)), None)

    def test_a_source_without_valid_records(self):
        nothing = from_results(IMPOSSIBLE, ONE, ())
        self.check(nothing, None, None, (("y",),))
        self.check(from_results(IMPOSSIBLE, IMPOSSIBLE, ()), None, None, None)
        self.check(compiled(ONE, IMPOSSIBLE, (set_a(A),)), ((("y",),), (("y",),)), None, None)

    def test_results_with_other_texts_than_the_sample_texts_reach_cases(self):
        second = compiled(TWO, ONE, (set_a(B),))
        self.assertEqual(second[3], ((("v1",),), (("v2",),)))
        self.check(second, None, ((("v1", "v2"),), (("v3", "v2"),)), None)
        self.check(turned(TWO), None, None, None)
        self.assertEqual(examples(turned(TWO))[1], ((("v1", "v2"),), (("v2", "v1"),)))
        only_second = compiled(TWO, ONE, (("drop", equal(A, B)), set_a(B)))
        self.assertEqual(analyze(only_second)[2], None)

    def test_unreached_is_the_first_case_that_no_result_is_similar_to(self):
        three = ((table("t", values("s", 3)),), ())
        some = from_results(ONE, three, (((("w0",),),), ((("w2",),),)), own=("k",))
        self.assertEqual(analyze(some)[2], ((("w1",),),))
        # A result that is not valid reaches nothing.
        self.assertEqual(analyze(compiled(ONE, ONE, (set_a(NULL),)))[2], (("v1",),))
        to_no_x = compiled(NO_X, ONE, (set_a(A),))
        self.check(to_no_x, None, None, (("x",),))

    def test_by_plain_searches(self):
        rng = random.Random(3)
        found = []
        for source, target, own in itertools.product(SCHEMAS, SCHEMAS, ((), ("k",))):
            migration = random_migration(rng, source, target, own, rng.random() < 0.6)
            invalid, collision, unreached = analyze(migration)
            constants = migration[2]
            wrong = [pair for pair in examples(migration) if pair[1] is not None and not is_valid(target, pair[1])]
            reached = {canonical(given, constants) for given in migration[3] if given is not None}
            missing = [case for case in cases(target, constants) if case not in reached]
            self.assertEqual(invalid, wrong[0] if wrong else None)
            self.assertEqual(collision, first_collision(migration, identity(source)))
            self.assertEqual(unreached, missing[0] if missing else None)
            if collision is not None:
                self.assertTrue(is_collision(migration, identity(source), *collision))
            found.append((invalid is None, collision is None, unreached is None))
        self.assertGreater(len(set(found)), 4)


class Lossless(unittest.TestCase):
    def test_what_makes_it_false(self):
        for migration in (
            dropping(ONE, ONE, "k"), compiled(TWO, TWO, (("drop", equal(A, B)), set_a(A), set_b(B))),
            compiled(ONE, NO_X, (set_a(A),)), compiled(TWO, FREE_PAIR, (set_a(NULL), set_b(B))),
            compiled(TWO, ONE, (set_a(A),)), compiled(TWO, TWO, (set_a(B), set_b(B))),
            replacing(("x", "y")), compiled(TAGS, ONE, (set_a(X),)),
        ):
            self.assertIs(is_lossless(migration), False)
            self.assertIsNone(inverse(migration))

    def test_what_is_lossless(self):
        for migration in (identity(ONE), turned(TWO), dropping(ONE, TWO), replacing(("x", "y"), ("y", "x")),
                          compiled(NO_X, ONE, (set_a(A),)), from_results(IMPOSSIBLE, ONE, ())):
            self.assertIs(is_lossless(migration), True)

    def test_by_its_definition(self):
        rng = random.Random(4)
        found = []
        for source, target, own in itertools.product((TAGS, ONE, PAIR), (FREE_PAIR, SPLIT), ((), ("k",))):
            for _ in range(10):
                migration = random_migration(rng, source, target, own, True)
                pool = tuple(sorted({*migration[2], "p", "q", "r", "s"}))
                results = results_of(migration, valid_over(source, pool))
                lossless = None not in results and len(set(results)) == len(results)
                found.append(is_lossless(migration))
                self.assertEqual(found[-1], lossless)
        self.assertGreater(min(found.count(True), found.count(False)), 5)


class Inverse(unittest.TestCase):
    def check(self, migration):
        source, target = migration[:2]
        back = inverse(migration)
        self.assertEqual(back[:2], (target, source))
        self.assertEqual(reduced(back), back)
        self.assertTrue(is_lossless(back))
        self.assertEqual(followed_by(migration, back), identity(source))
        self.assertEqual(followed_by(back, migration), identity(target))
        self.assertEqual(inverse(back), migration)
        return back

    def test_migrations_that_are_their_own_inverse(self):
        for migration in (turned(TWO), identity(ONE), identity(SPLIT), replacing(("x", "y"), ("y", "x"))):
            self.assertEqual(self.check(migration), migration)

    def test_migrations_that_are_not(self):
        cycle = replacing(("x", "y"), ("y", "z"), ("z", "x"))
        self.assertEqual(self.check(cycle), replacing(("y", "x"), ("z", "y"), ("x", "z")))
        self.assertNotEqual(inverse(cycle), cycle)
        three = ((table("t", text("a"), text("b"), text("c")),), ())
        moved = compiled(three, three, (set_a(B), set_b(column("t.c")), ("set", "t", "c", A)))
        self.assertEqual(followed_by(self.check(moved), self.check(moved)), moved)
        self.check(compiled(ONE, LETTERS, (("set", "u", "c", A),)))

    def test_schemas_of_the_same_capacity(self):
        unlike = (TWO[0], (unequal(A, B),))
        there = compiled(PAIR, TWO, (set_a(A), set_b(choose((equal(B, NULL), A), otherwise=B))))
        self.check(there)
        self.assertIsNone(inverse(compiled(unlike, TWO, (set_a(A), set_b(B)))))

    def test_migrations_with_constants(self):
        flagged = ((table("u", text("c", True), values("s", 2)),), (("or", (unequal(column("u.s"), ("cell", ("w1",))),
                                                                          equal(column("u.c"), NULL))),))
        tagged = compiled(FREE_PAIR, FREE_PAIR, (set_a(choose((equal(A, X), Y), (equal(A, Y), X), otherwise=A)),
                                                 set_b(choose((equal(A, X), B), (equal(B, X), NULL),
                                                              (equal(B, NULL), X), otherwise=B))))
        self.assertEqual(tagged[2], ("x", "y"))
        self.check(tagged)
        either = ((table("t", text("a"), optional=True), table("u", values("s", 1), optional=True)),
                  (("or", (("not", ("exists", "t")), ("not", ("exists", "u")))),))
        to_flagged = compiled(either, (flagged[0], (("or", (equal(column("u.s"), ("cell", ("w1",))),
                                                            unequal(column("u.c"), NULL))),
                                                    ("or", (unequal(column("u.s"), ("cell", ("w1",))),
                                                            equal(column("u.c"), NULL))))),
                              (("set", "u", "c", A), ("set", "u", "s", choose((("exists", "t"), ("cell", ("w0",))),
                                                                              otherwise=("cell", ("w1",))))))
        self.check(to_flagged)

    def test_random_rearrangements(self):
        rng = random.Random(5)
        for schema in (FREE_PAIR, PAIR, TWO, OPTIONAL, TAGGED):
            own = ("k",)
            records = cases(schema, tuple(sorted({*own, *identity(schema)[2]})))
            constants = tuple(sorted({*own, *identity(schema)[2]}))
            free = [len([name for name in texts_in(record) if name not in constants]) for record in records]
            places = list(range(len(records)))
            for many in set(free):
                alike = [place for place in places if free[place] == many]
                for place, other in zip(alike, rng.sample(alike, len(alike))):
                    places[place] = other
            migration = from_results(schema, schema, tuple(records[place] for place in places), own=own)
            self.check(migration)

    def test_no_inverse(self):
        for migration in (dropping(ONE, TWO), from_results(IMPOSSIBLE, ONE, ()), compiled(NO_X, ONE, (set_a(A),)),
                          dropping(ONE, ONE, "k"), compiled(ONE, NO_X, (set_a(A),)), compiled(TWO, ONE, (set_a(A),)),
                          replacing(("x", "y")), compiled(FREE_PAIR, PAIR, (set_a(A), set_b(B)))):
            self.assertIsNone(inverse(migration))
        empty = from_results(IMPOSSIBLE, IMPOSSIBLE, ())
        self.assertEqual(inverse(empty), empty)


if __name__ == "__main__":
    unittest.main()
