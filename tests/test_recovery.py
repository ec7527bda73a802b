"""What can be computed from a migrated database [200] to [203]."""

import itertools
import random
import unittest

from migraproof.cases import cases
from migraproof.composing import followed_by
from migraproof.counting import many_candidates
from migraproof.migrations import compiled, examples, from_results, identity, migrated, reduced, result
from migraproof.records import canonical
from migraproof.recovery import is_collision, recover, recover_record
from migraproof.schemas import constants_of, is_valid
from samples import (FREE_PAIR, IMPOSSIBLE, LETTERS, NULL, ONE, OPTIONAL, PAIR, SPLIT, TAGGED, TAGS, TWO, X, choose,
                     column, equal, random_migration, set_c, set_d, table, tags, text, unequal, valid_over, values)
from searches import collides, first_collision, some_collision
from support import raised_text

A, B = column("t.a"), column("t.b")
C, D = column("u.c"), column("u.d")
Y = ("cell", "y")
NULLS = ((table("u", text("c", True)),), ())
WIDE = ((table("t", *[text(name) for name in "abcd"]),), ())
WORD = {"w0": ("cell", ("w0",)), "w1": ("cell", ("w1",))}


def copies(target):
    """The rules that give each text column of the target the column a, and each other one the value w0."""
    return tuple(("set", name, at, A if kind == "text" else WORD["w0"]) for name, _, columns in target[0]
                 for at, kind, _ in columns)


class Rules(unittest.TestCase):
    def check(self, migration, query, expected):
        with self.subTest(migration=migration, query=query):
            self.assertEqual(recover(migration, query), (None, expected))
            self.assertEqual(first_collision(migration, query), expected)
            self.assertTrue(is_collision(migration, query, *expected))

    def test_the_first_rule(self):
        no_b = compiled(FREE_PAIR, LETTERS, (("drop", equal(B, NULL)), set_c(A)))
        self.check(no_b, identity(FREE_PAIR), ((("v1", None),), None))
        self.check(no_b, compiled(FREE_PAIR, TAGS, (tags(equal(A, X)),)), ((("x", None),), None))
        none = compiled(FREE_PAIR, TWO, (("drop", equal(A, B)), set_c(A), set_d(A)))
        self.check(none, compiled(FREE_PAIR, LETTERS, (("drop", equal(B, NULL)), set_c(B))), ((("v1", "v1"),), None))

    def test_the_second_rule(self):
        letter = compiled(PAIR, LETTERS, (set_c(A),))
        self.check(letter, compiled(PAIR, NULLS, (set_c(B),)), ((("v1", "v2"),), (("v1", "v3"),)))
        tag = compiled(PAIR, TAGS, (tags(equal(B, NULL)),))
        self.check(tag, identity(PAIR), ((("v1", None),), (("v2", None),)))
        self.check(tag, compiled(PAIR, NULLS, (set_c(B),)), ((("v1", "v2"),), (("v1", "v3"),)))

    def test_the_second_rule_takes_the_first_free_text_of_the_case(self):
        tag = compiled(PAIR, TAGS, (("drop", equal(B, NULL)), tags(("true",))))
        turned = compiled(PAIR, TWO, (("drop", equal(B, NULL)), set_c(B), set_d(A)))
        self.check(tag, turned, ((("v1", "v2"),), (("v3", "v2"),)))

    def test_the_second_rule_with_constants_that_look_like_sample_texts(self):
        letter = compiled(PAIR, LETTERS, (set_c(A),))
        names = ("or", tuple(equal(operand, ("cell", name)) for operand in (A, B) for name in ("v1", "v3")))
        answer = compiled(PAIR, LETTERS, (("drop", ("or", (names, equal(B, NULL)))), set_c(B)))
        self.assertEqual(answer[2], ("v1", "v3"))
        self.check(letter, answer, ((("v2", "v4"),), (("v2", "v5"),)))

    def test_the_third_rule(self):
        tag = compiled(ONE, TAGS, (tags(equal(A, X)),))
        self.check(tag, compiled(ONE, TAGS, (tags(equal(A, Y)),)), ((("y",),), (("v1",),)))
        filled = compiled(FREE_PAIR, TWO, (set_c(A), set_d(choose((equal(B, NULL), A), otherwise=B))))
        self.check(filled, identity(FREE_PAIR), ((("v1", None),), (("v1", "v1"),)))
        least = compiled(PAIR, TAGS, (tags(equal(B, NULL)),))
        self.check(least, compiled(PAIR, TAGS, (tags(equal(B, X)),)), ((("x", "v2"),), (("v1", "x"),)))

    def test_the_third_rule_with_an_answer_that_is_dropped(self):
        all_alike = compiled(ONE, TAGS, (tags(("true",)),))
        self.check(all_alike, compiled(ONE, TAGS, (("drop", equal(A, X)), tags(("true",)))), ((("x",),), (("v1",),)))
        self.check(all_alike, compiled(ONE, TAGS, (("drop", unequal(A, X)), tags(("true",)))), ((("x",),), (("v1",),)))

    def test_the_third_rule_renames_the_earlier_case(self):
        # Both images of a case with two different texts have the text that is kept first.
        source = ((table("t", values("s", 2), text("a"), text("b")),), ())
        tag = column("t.s")
        kept = compiled(source, LETTERS, (set_c(choose((equal(tag, WORD["w0"]), B), otherwise=A)),))
        which = compiled(source, TAGS, (tags(equal(tag, WORD["w0"])),))
        self.check(kept, which, (((("w0",), "v1", "v1"),), ((("w1",), "v1", "v1"),)))
        unlike = (source[0], (unequal(A, B),))
        kept = compiled(unlike, LETTERS, (set_c(choose((equal(tag, WORD["w0"]), B), otherwise=A)),))
        which = compiled(unlike, TAGS, (tags(equal(tag, WORD["w0"])),))
        # The earlier case has v2 in its image, which becomes v1; its other text becomes the first new one.
        self.check(kept, which, (((("w0",), "v3", "v1"),), ((("w1",), "v1", "v2"),)))

    def test_a_case_and_a_record_that_is_no_case(self):
        unlike = ((table("t", text("a"), text("b"), ("s", ("w0", "w1"), False)),), (unequal(A, B),))
        tag = column("t.s")
        kept = compiled(unlike, LETTERS, (set_c(choose((equal(tag, WORD["w0"]), A), otherwise=B)),))
        found = recover(kept, compiled(unlike, TAGS, (tags(equal(tag, WORD["w0"])),)))[1]
        self.assertEqual(found, ((("v2", "v3", ("w0",)),), (("v1", "v2", ("w1",)),)))
        self.assertEqual([record in cases(unlike, ()) for record in found], [False, True])

    def test_the_first_rule_comes_before_later_cases(self):
        migration = from_results(PAIR, LETTERS, (None, (("v1",),)))
        self.check(migration, identity(PAIR), ((("v1", None),), None))
        other = from_results(PAIR, LETTERS, ((("v1",),), None))
        self.check(other, identity(PAIR), ((("v1", "v2"),), None))

    def test_the_second_rule_before_the_third_one_and_earlier_cases_first(self):
        letter = compiled(TAGGED, LETTERS, (set_c(A),))
        self.check(letter, identity(TAGGED), (((("w0",), "x", None),), ((("w0",), "x", "x"),)))
        without_null = (TAGGED[0], (unequal(B, NULL), unequal(B, X)))
        letter = compiled(without_null, LETTERS, (set_c(A),))
        self.check(letter, identity(without_null), (((("w0",), "x", "v1"),), ((("w0",), "x", "v2"),)))
        # The second case has both an earlier case with the same image and a text that its image does not show.
        source = (PAIR[0], ())
        alike = compiled(source, TAGS, (tags(("true",)),))
        both = compiled(source, NULLS, (set_c(B),))
        self.assertEqual(cases(source, ()), ((("v1", None),), (("v1", "v1"),), (("v1", "v2"),)))
        self.check(alike, both, ((("v1", "v1"),), (("v2", "v2"),)))


class RandomCollisions(unittest.TestCase):
    def test_the_first_one_by_the_words_of_the_document(self):
        rng = random.Random(23)
        kinds = set()
        for source, middle, target in itertools.product((PAIR, TAGGED, SPLIT), (FREE_PAIR, OPTIONAL, TWO),
                                                        (NULLS, SPLIT)):
            for own in ((), ("k",)):
                migration = random_migration(rng, source, middle, own, True)
                query = random_migration(rng, source, target, (), rng.random() < 0.5)
                expected = first_collision(migration, query)
                recovered, found = recover(migration, query)
                with self.subTest(migration=migration, query=query):
                    self.assertEqual(found, expected)
                    self.assertEqual(recovered is None, found is not None)
                    if found is not None:
                        self.assertTrue(is_collision(migration, query, *found))
                        self.assertTrue(all(record is None or is_valid(source, record) for record in found))
                        kinds.add(None if found[1] is None else canonical(found[0], ()) == canonical(found[1], ()))
        self.assertEqual(kinds, {None, True, False})

    def test_there_is_one_if_and_only_if_there_is_any(self):
        rng = random.Random(24)
        found = []
        for source, middle in itertools.product((ONE, FREE_PAIR), (TWO, TAGS, SPLIT)):
            for own, target in itertools.product(((), ("k",)), (LETTERS, TAGS)):
                for _ in range(3):
                    migration = random_migration(rng, source, middle, own, True)
                    query = random_migration(rng, source, target, (), True)
                    pool = tuple(sorted({*migration[2], *query[2], "p", "q", "r", "s"}))
                    found.append(recover(migration, query)[1] is None)
                    self.assertEqual(found[-1], not some_collision(migration, query, pool))
        self.assertGreater(min(found.count(True), found.count(False)), 5)


class Recovered(unittest.TestCase):
    def check(self, migration, query):
        recovered, collision = recover(migration, query)
        self.assertIsNone(collision)
        self.assertEqual(recovered[:2], (migration[1], query[1]))
        self.assertEqual(reduced(recovered), recovered)
        self.assertEqual(followed_by(migration, recovered), query)
        texts = tuple(sorted({*migration[2], *query[2], "p", "q", "r"}))
        images = {result(migration, record) for record in valid_over(migration[0], texts)}
        for record in valid_over(migration[1], texts):
            if record not in images:
                self.assertIsNone(result(recovered, record))
        return recovered

    def test_the_query_is_the_migration_followed_by_it(self):
        rng = random.Random(25)
        for source, middle in itertools.product((ONE, PAIR, TAGGED), (FREE_PAIR, TWO, OPTIONAL)):
            for own in ((), ("k",)):
                migration = random_migration(rng, source, middle, own, True)
                later = random_migration(rng, middle, SPLIT, ("m",), True)
                self.check(migration, followed_by(migration, later))
                self.check(migration, migration)

    def test_no_function_of_the_image_differs_for_images_only(self):
        filled = compiled(FREE_PAIR, TWO, (set_c(A), set_d(choose((equal(B, NULL), A), otherwise=B))))
        question = compiled(FREE_PAIR, TAGS, (tags(("or", (equal(B, NULL), equal(A, B)))),))
        recovered = self.check(filled, question)
        self.assertEqual(examples(recovered), (((("v1", "v1"),), ((("w1",),),)), ((("v1", "v2"),), ((("w0",),),))))

    def test_cases_that_are_no_images_are_dropped(self):
        doubled = compiled(ONE, TWO, (set_c(A), set_d(A)))
        recovered = self.check(doubled, identity(ONE))
        self.assertEqual(examples(recovered), (((("v1", "v1"),), (("v1",),)), ((("v1", "v2"),), None)))

    def test_dropped_records_that_have_no_answer(self):
        some = compiled(FREE_PAIR, TWO, (("drop", equal(B, NULL)), set_c(A), set_d(B)))
        query = compiled(FREE_PAIR, LETTERS, (("drop", equal(B, NULL)), set_c(B)))
        self.assertEqual(self.check(some, query), compiled(TWO, LETTERS, (set_c(D),)))
        nothing = compiled(FREE_PAIR, TWO, (("drop", ("true",)), set_c(A), set_d(A)))
        self.assertEqual(self.check(nothing, nothing), (TWO, TWO, (), (None, None)))

    def test_an_image_that_has_no_answer(self):
        every = compiled(ONE, LETTERS, (set_c(A),))
        query = compiled(ONE, ONE, (("drop", equal(A, X)), ("set", "t", "a", A)))
        self.assertEqual(self.check(every, query), (LETTERS, ONE, ("x",), (None, (("v1",),))))

    def test_a_query_with_constants_of_its_own(self):
        every = compiled(ONE, LETTERS, (set_c(choose((equal(A, X), Y), (equal(A, Y), X), otherwise=A)),))
        query = compiled(ONE, LETTERS, (set_c(choose((equal(A, ("cell", "k")), X), (equal(A, Y), ("cell", "k")),
                                                     otherwise=A)),))
        recovered = self.check(every, query)
        self.assertEqual(recovered, (LETTERS, LETTERS, ("k", "x", "y"), ((("x",),), (("k",),), (("x",),), (("v1",),))))

    def test_a_query_with_results_that_are_not_valid(self):
        every = compiled(ONE, LETTERS, (set_c(A),))
        target = (LETTERS[0], (unequal(C, X),))
        query = compiled(ONE, target, (set_c(choose((equal(A, Y), NULL), otherwise=A)),))
        self.assertEqual(query[3], ((("x",),), ((None,),), (("v1",),)))
        recovered = self.check(every, query)
        self.assertEqual(recovered, (LETTERS, target, query[2], query[3]))

    def test_a_source_without_valid_records(self):
        nothing = from_results(IMPOSSIBLE, LETTERS, ())
        self.assertEqual(recover(nothing, from_results(IMPOSSIBLE, TAGS, ())), ((LETTERS, TAGS, (), (None,)), None))

    def test_cases_of_the_target_for_the_constants_of_both(self):
        every = compiled(ONE, TWO, (set_c(A), set_d(("cell", "v1"))))
        query = compiled(ONE, TAGS, (tags(equal(A, ("cell", "v2"))),))
        self.assertEqual((every[2], query[2]), (("v1",), ("v2",)))
        recovered = self.check(every, query)
        self.assertEqual(result(recovered, (("v2", "v1"),)), ((("w1",),),))
        self.assertEqual(result(recovered, (("v3", "v1"),)), ((("w0",),),))
        self.assertIsNone(result(recovered, (("v1", "v2"),)))


class RecoverRecord(unittest.TestCase):
    def test_the_same_as_with_the_identity(self):
        rng = random.Random(26)
        for source, target in itertools.product((ONE, PAIR, TAGGED), (FREE_PAIR, TWO, SPLIT)):
            migration = random_migration(rng, source, target, ("k",), True)
            self.assertEqual(recover_record(migration), recover(migration, identity(source)))

    def test_the_database_is_led_back(self):
        source = PAIR
        target = ((table("p", text("c"), values("s", 2)), table("q", text("d"), optional=True)), ())
        migration = compiled(source, target, (
            ("set", "p", "c", A), ("set", "p", "s", choose((equal(A, X), WORD["w1"]), otherwise=WORD["w0"])),
            ("when", "q", unequal(B, NULL)), ("set", "q", "d", B)))
        back, collision = recover_record(migration)
        self.assertIsNone(collision)
        database = (("k2", (("x", "p"),)), ("k1", (("q", None),)), ("k3", (("p", "x"),)), ("", (("x", None),)))
        self.assertEqual(migrated(back, migrated(migration, database)), database)
        self.assertIsNone(result(back, (("x", ("w0",)), None)))

    def test_the_identity_is_its_own_recovery(self):
        for schema in (ONE, PAIR, OPTIONAL, TAGGED, SPLIT):
            self.assertEqual(recover_record(identity(schema)), (identity(schema), None))

    def test_a_collision(self):
        self.assertEqual(recover_record(compiled(FREE_PAIR, LETTERS, (set_c(A),))),
                         (None, ((("v1", None),), (("v1", "v1"),))))

    def test_invalid_results(self):
        migration = compiled(FREE_PAIR, PAIR, (("set", "t", "a", A), ("set", "t", "b", B)))
        self.assertEqual(raised_text(recover_record, migration), "InvalidResults(place=1)")


class IsCollision(unittest.TestCase):
    LETTER = compiled(PAIR, LETTERS, (("drop", equal(A, Y)), set_c(choose((equal(A, X), B), otherwise=A))))
    QUERY = compiled(PAIR, TAGS, (tags(equal(A, X)),))
    GOOD = ((("x", "p"),), (("p", "q"),))

    def check(self, first, second, expected):
        self.assertIs(is_collision(self.LETTER, self.QUERY, first, second), expected)

    def test_equal_images_and_different_answers(self):
        self.check(*self.GOOD, True)
        self.check(*self.GOOD[::-1], True)
        self.check((("x", "v7"),), (("v7", None),), True)

    def test_different_images(self):
        self.check((("x", "p"),), (("q", "p"),), False)
        self.check((("x", None),), (("p", None),), False)

    def test_equal_answers(self):
        self.check((("p", "q"),), (("p", None),), False)

    def test_equal_records(self):
        for record in (*self.GOOD, (("y", None),)):
            self.check(record, record, False)

    def test_none(self):
        self.check((("y", "p"),), None, True)
        self.check((("y", None),), None, True)
        self.check((("x", "p"),), None, False)
        no_answer = compiled(PAIR, TAGS, (("drop", equal(A, Y)), tags(("true",))))
        self.assertFalse(is_collision(self.LETTER, no_answer, (("y", "p"),), None))

    def test_similar_but_different_records(self):
        both = compiled(PAIR, NULLS, (set_c(B),))
        self.assertTrue(is_collision(self.LETTER, both, (("p", "q"),), (("p", "r"),)))
        self.assertFalse(is_collision(self.LETTER, both, (("p", "q"),), (("r", "q"),)))
        self.assertTrue(is_collision(self.LETTER, identity(PAIR), (("y", "q"),), (("y", "r"),)))

    def test_a_record_and_a_dropped_one(self):
        self.check((("y", "p"),), (("y", "q"),), False)
        by_tag = compiled(PAIR, TAGS, (tags(equal(B, X)),))
        self.assertTrue(is_collision(self.LETTER, by_tag, (("y", "x"),), (("y", "q"),)))

    def test_records_that_are_not_valid(self):
        for bad in ((("p", "p"),), (("x", "x"),), ((None, "p"),), (("p",),), ((),), (), (None,), ((("p",), "p"),),
                    (("p", "q"), ("p",))):
            self.check(bad, self.GOOD[0], False)
            self.check(self.GOOD[1], bad, False)
            self.check(bad, bad, False)
            self.check(bad, None, False)

    def test_records_that_are_no_cases(self):
        self.check((("x", "x1"),), (("x1", "y"),), True)
        self.check((("x", ""),), (("", "v1"),), True)

    def test_by_its_definition(self):
        rng = random.Random(27)
        for _ in range(4):
            migration = random_migration(rng, TAGGED, FREE_PAIR, ("k",), False)
            query = random_migration(rng, TAGGED, SPLIT, (), False)
            records = rng.sample(valid_over(TAGGED, ("k", "x", "p", "q")), 25)
            for first, second in itertools.product(records, (None, *records)):
                self.assertIs(is_collision(migration, query, first, second), collides(migration, query, first, second))


class Errors(unittest.TestCase):
    INVALID = compiled(FREE_PAIR, PAIR, (("set", "t", "a", A), ("set", "t", "b", B)))

    def dropping(self, source, target, *names):
        return compiled(source, target, (*[("drop", equal(A, ("cell", name))) for name in names],
                                         *copies(target)))

    def test_the_sources_differ(self):
        for query in (identity(PAIR), identity(ONE)):
            self.assertEqual(raised_text(recover, self.INVALID, query), "SchemasDiffer()")
        self.assertEqual(raised_text(recover, self.dropping(WIDE, ONE, "k", "m"), self.dropping(ONE, WIDE, "x")),
                         "SchemasDiffer()")

    def test_the_sources_differ_for_is_collision_whatever_the_records_are(self):
        for first, second in (((("p", None),), (("q", None),)), ((), ()), ((("p",),), None), ((None,), ((),))):
            self.assertEqual(raised_text(is_collision, self.INVALID, identity(PAIR), first, second), "SchemasDiffer()")

    def test_results_that_are_not_valid_matter_for_recovery_only(self):
        self.assertEqual(raised_text(recover, self.INVALID, identity(FREE_PAIR)), "InvalidResults(place=1)")
        self.assertFalse(is_collision(self.INVALID, identity(FREE_PAIR), (("p", "p"),), (("p", None),)))

    def test_the_place_is_that_among_the_migration_s_own_cases(self):
        query = compiled(FREE_PAIR, TAGS, (tags(("or", (equal(A, X), equal(B, Y)))),))
        self.assertEqual(raised_text(recover, self.INVALID, query), "InvalidResults(place=1)")

    def test_invalid_results_before_too_many_cases(self):
        nulls = compiled(WIDE, LETTERS, (set_c(choose((equal(A, X), NULL), (equal(A, Y), X), otherwise=A)),))
        self.assertEqual(raised_text(recover, nulls, self.dropping(WIDE, ONE, "k")), "InvalidResults(place=0)")

    def test_too_many_cases_in_their_order(self):
        other = ((table("t", text("a"), text("b", True), text("c", True), values("s", 4)),), ())
        third = ((table("t", text("a"), text("b"), text("c"), values("s", 5)),), ())
        counts = [many_candidates(schema, 3) for schema in (WIDE, other, third)]
        self.assertEqual(len(set(counts)), 3)
        self.assertGreater(min(counts), 300)
        for source, middle, target in itertools.permutations((WIDE, other, third)):
            for schemas, first in (((source, middle, target), source), ((source, ONE, target), source),
                                   ((source, middle, ONE), source), ((ONE, middle, target), middle),
                                   ((ONE, middle, ONE), middle), ((ONE, ONE, target), target)):
                migration = self.dropping(schemas[0], schemas[1], "k")
                query = self.dropping(schemas[0], schemas[2], "m", "x")
                self.assertEqual(raised_text(recover, migration, query),
                                 f"TooManyCases(count={many_candidates(first, 3)})")

    def test_is_collision_lists_no_cases_for_the_constants_of_both(self):
        migration, query = self.dropping(WIDE, ONE, "k", "m"), self.dropping(WIDE, ONE, "x", "y")
        record = (("k", "p", "q", "r"),)
        self.assertTrue(is_collision(migration, query, record, None))
        self.assertFalse(is_collision(query, migration, record, None))


class ConstantsOfTheSchemas(unittest.TestCase):
    def test_a_check_of_the_target_of_the_query(self):
        target = (LETTERS[0], (unequal(C, X),))
        query = compiled(ONE, target, (("drop", equal(A, X)), set_c(A)))
        migration = compiled(ONE, LETTERS, (set_c(A),))
        self.assertEqual((constants_of(target), migration[2]), (("x",), ()))
        self.assertEqual(recover(migration, query)[0], (LETTERS, target, ("x",), (None, (("v1",),))))


if __name__ == "__main__":
    unittest.main()
