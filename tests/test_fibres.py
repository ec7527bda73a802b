"""Hidden texts, groups, fibres and the size of archives [240] to [242]."""

import itertools
import random
import unittest

from migraproof.analysis import is_lossless
from migraproof.cases import cases
from migraproof.fibres import archive_size, crowded, fibre, groups, hidden_texts
from migraproof.migrations import compiled, examples, from_results, identity
from migraproof.polynomials import value_at
from migraproof.records import canonical
from samples import (FREE_PAIR, IMPOSSIBLE, LETTERS, NULL, ONE, PAIR, SPLIT, TAGGED, TAGS, TWO, X, choose, column,
                     equal, random_valid_results, results_of, set_c, set_d, table, tags, text, texts_in, unequal,
                     valid_over, values)
from support import raised_text

A, B = column("t.a"), column("t.b")
C = column("u.c")
W0 = ("cell", ("w0",))
THREE = ((table("t", text("a"), text("b"), text("c")),), ())
NO_X = (LETTERS[0], (unequal(C, X),))
FUNCTIONS = {"hidden_texts": hidden_texts, "groups": groups, "fibre": lambda migration: fibre(migration, 0),
             "crowded": lambda migration: crowded(migration, 0, 1), "archive_size": archive_size}


def random_migration(rng, source, target, own):
    """A migration with valid results that drops nothing, or None."""
    constants = tuple(sorted({*own, *identity(source)[2], *identity(target)[2]}))
    records = cases(source, constants)
    results = []
    for record in records:
        for _ in range(40):
            found = random_valid_results(rng, target, constants, (record,))[0]
            if found is not None:
                break
        results.append(found)
    return None if None in results else from_results(source, target, tuple(results), own=own)


def random_migrations(seed):
    rng = random.Random(seed)
    schemas = (ONE, PAIR, FREE_PAIR, TAGGED, SPLIT)
    for source, target, own in itertools.product(schemas, (ONE, FREE_PAIR, TAGS, TWO, SPLIT), ((), ("k",), ("v1",))):
        migration = random_migration(rng, source, target, own)
        if migration is not None:
            yield migration


def free(record, constants):
    return tuple(name for name in texts_in(record) if name not in constants)


class HiddenTexts(unittest.TestCase):
    def test_their_order(self):
        swapped = compiled(THREE, LETTERS, (set_c(B),))
        self.assertEqual([case[0] for case, _ in examples(swapped)], [
            ("v1", "v1", "v1"), ("v1", "v1", "v2"), ("v1", "v2", "v1"), ("v1", "v2", "v2"), ("v1", "v2", "v3")])
        self.assertEqual(hidden_texts(swapped), ((), ("v2",), ("v1",), ("v1",), ("v1", "v3")))

    def test_constants_are_not_hidden(self):
        migration = compiled(THREE, TAGS, (tags(("or", (equal(A, X), equal(B, X)))),))
        self.assertEqual(migration[2], ("x",))
        self.assertEqual(hidden_texts(migration), tuple(free(case, ("x",)) for case in cases(THREE, ("x",))))

    def test_by_the_words_of_the_document(self):
        for migration in random_migrations(1):
            expected = [tuple(name for name in free(case, migration[2]) if name not in texts_in(given))
                        for case, given in examples(migration)]
            self.assertEqual(hidden_texts(migration), tuple(expected))

    def test_no_cases(self):
        nothing = from_results(IMPOSSIBLE, ONE, ())
        self.assertEqual((hidden_texts(nothing), groups(nothing), archive_size(nothing)), ((), (), (0, 1)))
        self.assertIsNone(crowded(nothing, 0, 0))


class Groups(unittest.TestCase):
    def test_their_order(self):
        migration = compiled(THREE, TWO, (set_c(A), set_d(choose((equal(B, column("t.c")), A), otherwise=B))))
        self.assertEqual(migration[3], (
            (("v1", "v1"),), (("v1", "v1"),), (("v1", "v2"),), (("v1", "v1"),), (("v1", "v2"),)))
        self.assertEqual(groups(migration), ((0, 1, 3), (2, 4)))

    def test_results_that_are_similar_but_different(self):
        migration = compiled(THREE, LETTERS, (set_c(B),))
        self.assertEqual(migration[3], ((("v1",),), (("v1",),), (("v2",),), (("v2",),), (("v2",),)))
        self.assertEqual(groups(migration), ((0, 1, 2, 3, 4),))

    def test_results_with_constants(self):
        migration = compiled(FREE_PAIR, LETTERS, (set_c(A), ("drop", ("false",))))
        self.assertEqual(groups(migration), ((0, 1, 2),))
        migration = compiled(FREE_PAIR, LETTERS, (set_c(choose((equal(B, X), X), otherwise=A)),))
        self.assertEqual([case[0] for case, _ in examples(migration)], [
            ("x", None), ("x", "x"), ("x", "v1"), ("v1", None), ("v1", "x"), ("v1", "v1"), ("v1", "v2")])
        self.assertEqual(groups(migration), ((0, 1, 2, 4), (3, 5, 6)))
        self.assertEqual(hidden_texts(migration), ((), (), ("v1",), (), ("v1",), (), ("v2",)))

    def test_by_the_words_of_the_document(self):
        for migration in random_migrations(2):
            found = {}
            for number, (_, given) in enumerate(examples(migration)):
                found.setdefault(canonical(given, migration[2]), []).append(number)
            self.assertEqual(groups(migration), tuple(tuple(numbers) for numbers in found.values()))


class Fibres(unittest.TestCase):
    def test_a_plain_count_of_the_records_over_n_texts(self):
        seen = 0
        for migration in random_migrations(3):
            constants = migration[2]
            for number, group in enumerate(groups(migration)):
                polynomial = fibre(migration, number)
                given = examples(migration)[group[-1]][1]
                texts = sorted({*constants, *texts_in(given)})
                for _ in range(4):
                    many = results_of(migration, valid_over(migration[0], texts)).count(given)
                    self.assertEqual(value_at(polynomial, len(texts)), many)
                    texts.append(next(name for name in ("p", "q", "r", "s") if name not in texts))
                seen += 1
        self.assertGreater(seen, 100)

    def test_all_results_of_a_group_have_the_same(self):
        migration = compiled(THREE, LETTERS, (set_c(choose((equal(A, X), B), otherwise=A)),))
        texts = ("x", "p", "q", "r")
        for given in ((("x",),), (("p",),), (("q",),)):
            number = 0 if given == (("x",),) else 1
            self.assertEqual(results_of(migration, valid_over(THREE, texts)).count(given),
                             value_at(fibre(migration, number), 4))

    def test_examples(self):
        first = compiled(FREE_PAIR, LETTERS, (set_c(A),))
        self.assertEqual(fibre(first, 0), (1, 1))
        nothing = compiled(THREE, TAGS, (tags(("false",)),))
        self.assertEqual(fibre(nothing, 0), (0, 0, 0, 1))
        tagged = compiled(THREE, TAGS, (tags(equal(A, B)),))
        self.assertEqual([fibre(tagged, number) for number in (0, 1)], [(0, 0, 1), (0, 0, -1, 1)])
        self.assertEqual([fibre(identity(SPLIT), number) for number in range(3)], [(1,)] * 3)


class Crowded(unittest.TestCase):
    def test_large_enough_or_not(self):
        migration = compiled(FREE_PAIR, LETTERS, (set_c(A),))
        self.assertEqual(fibre(migration, 0), (1, 1))
        for columns, many, expected in (
            (1, 2, None), (1, 300, None), (2, 1, None), (8, 1, None), (1, 1, (0, 1)), (0, 0, (0, 1)), (0, 1, (0, 1)),
            (0, 2, (0, 2)), (0, 9, (0, 9)), (0, 300, (0, 300)), (1, 0, (0, 1)), (8, 0, (0, 1)),
        ):
            self.assertEqual(crowded(migration, columns, many), expected)

    def test_the_first_group_that_is_too_large(self):
        tagged = compiled(THREE, TAGS, (tags(equal(A, B)),))
        self.assertEqual([fibre(tagged, number) for number in (0, 1)], [(0, 0, 1), (0, 0, -1, 1)])
        self.assertIsNone(crowded(tagged, 3, 1))
        self.assertEqual(crowded(tagged, 2, 1), (1, 3))
        self.assertEqual(crowded(tagged, 2, 5), (1, 7))
        self.assertEqual(crowded(tagged, 1, 1), (0, 2))
        self.assertEqual(crowded(tagged, 1, 7), (0, 8))
        self.assertEqual(crowded(tagged, 0, 0), (0, 1))
        self.assertEqual(crowded(tagged, 2, 0), (0, 1))

    def test_not_less_than_the_constants_and_the_free_texts_of_a_result_together(self):
        names = [("cell", name) for name in ("k", "m", "x", "y")]
        same = ("or", tuple(equal(A, name) for name in names))
        migration = compiled(FREE_PAIR, LETTERS, (set_c(choose((same, X), otherwise=A)),))
        self.assertEqual(migration[2], ("k", "m", "x", "y"))
        self.assertEqual([fibre(migration, number) for number in range(len(groups(migration)))], [(4, 4), (1, 1)])
        self.assertEqual(crowded(migration, 0, 0), (0, 4))
        self.assertEqual(crowded(migration, 1, 3), (0, 4))
        self.assertEqual(crowded(migration, 0, 100), (0, 25))
        two = compiled(THREE, TWO, (set_c(A), set_d(B)))
        self.assertEqual([fibre(two, number) for number in (0, 1)], [(0, 1), (0, 1)])
        self.assertEqual(crowded(two, 0, 0), (0, 1))
        unlike = (THREE[0], (unequal(A, B),))
        two = compiled(unlike, TWO, (set_c(A), set_d(B)))
        self.assertEqual(crowded(two, 0, 0), (0, 2))
        self.assertEqual(crowded(two, 0, 1), (0, 2))
        self.assertEqual(crowded(two, 0, 2), (0, 3))

    def test_the_least_n_by_trying(self):
        seen = set()
        for migration in random_migrations(4):
            for columns, many in itertools.product((0, 1, 2), (0, 1, 2, 3, 10)):
                expected = None
                for number, group in enumerate(groups(migration)):
                    polynomial = fibre(migration, number)
                    given = examples(migration)[group[0]][1]
                    least = len(migration[2]) + len(free(given, migration[2]))
                    greater = [value_at(polynomial, n) > many * n ** columns for n in range(400)]
                    if greater[-1]:
                        start = 400 - greater[::-1].index(False) if False in greater else 0
                        expected = (number, max(start, least))
                        break
                self.assertEqual(crowded(migration, columns, many), expected)
                seen.add(expected and expected[0])
        self.assertGreater(len(seen), 2)


class Size(unittest.TestCase):
    def test_what_loses_nothing(self):
        for migration in (identity(ONE), identity(SPLIT), compiled(ONE, TWO, (set_c(A), set_d(A)))):
            self.assertEqual(archive_size(migration), (0, 1))

    def test_values_texts_and_both(self):
        flagged = ((table("t", text("a"), values("s", 5)),), ())
        self.assertEqual(archive_size(compiled(flagged, LETTERS, (set_c(A),))), (0, 5))
        self.assertEqual(archive_size(compiled(flagged, TAGS, (tags(("false",)),))), (1, 5))
        self.assertEqual(archive_size(compiled(THREE, LETTERS, (set_c(A),))), (2, 1))
        self.assertEqual(archive_size(compiled(THREE, TWO, (set_c(A), set_d(B)))), (1, 1))
        self.assertEqual(archive_size(compiled(THREE, TAGS, (tags(equal(A, B)),))), (3, 1))
        self.assertEqual(archive_size(compiled(FREE_PAIR, LETTERS, (set_c(A),))), (1, 2))
        self.assertEqual(archive_size(compiled(PAIR, LETTERS, (set_c(A),))), (1, 1))

    def test_a_fibre_that_is_just_small_enough_and_one_that_is_just_too_great(self):
        # The leading coefficient is 2; what follows is negative, zero or positive.
        source = ((table("t", text("a"), text("b", True), values("s", 2)),), ())
        tag = column("t.s")
        for checks, polynomial, size in (
            ((unequal(A, B), unequal(B, NULL)), (-2, 2), (1, 2)),
            ((unequal(B, NULL),), (0, 2), (1, 2)),
            ((("or", (unequal(B, NULL), equal(tag, W0))),), (1, 2), (1, 3)),
            ((), (2, 2), (1, 3)),
        ):
            migration = compiled((source[0], checks), LETTERS, (set_c(A),))
            self.assertEqual((fibre(migration, 0), archive_size(migration)), (polynomial, size))

    def test_it_is_the_least_archive_that_is_large_enough(self):
        seen = set()
        for migration in random_migrations(5):
            columns, many = archive_size(migration)
            self.assertIsNone(crowded(migration, columns, many))
            if many > 1:
                self.assertIsNotNone(crowded(migration, columns, many - 1))
            if columns:
                self.assertIsNotNone(crowded(migration, columns - 1, 10 ** 6))
            self.assertEqual((columns, many) == (0, 1), is_lossless(migration))
            seen.add((columns, many))
        self.assertGreater(len(seen), 6)

    def test_the_largest_number_of_hidden_texts(self):
        for migration in random_migrations(6):
            self.assertEqual(archive_size(migration)[0], max(len(texts) for texts in hidden_texts(migration)))


class Errors(unittest.TestCase):
    def check(self, migration, expected):
        for name, function in FUNCTIONS.items():
            with self.subTest(name=name):
                self.assertEqual(raised_text(function, migration), expected)

    def test_invalid_results(self):
        self.check(compiled(FREE_PAIR, LETTERS, (set_c(B),)), "InvalidResults(place=0)")
        only_x = choose((equal(A, X), A), otherwise=NULL)
        self.check(compiled(ONE, LETTERS, (set_c(only_x),)), "InvalidResults(place=1)")
        self.check(compiled(ONE, NO_X, (set_c(A),)), "InvalidResults(place=0)")

    def test_dropped_records(self):
        self.check(compiled(FREE_PAIR, LETTERS, (("drop", equal(A, B)), set_c(A))), "DropsRecords(place=1)")
        self.check(compiled(ONE, LETTERS, (("drop", equal(A, X)), set_c(A))), "DropsRecords(place=0)")
        self.check(compiled(ONE, LETTERS, (("drop", unequal(A, X)), set_c(A))), "DropsRecords(place=1)")
        self.check(compiled(ONE, LETTERS, (("drop", ("true",)), set_c(A))), "DropsRecords(place=0)")
        # The first one of several.
        self.check(compiled(FREE_PAIR, LETTERS, (("drop", unequal(B, NULL)), set_c(A))), "DropsRecords(place=1)")
        self.check(compiled(THREE, LETTERS, (("drop", unequal(A, B)), set_c(A))), "DropsRecords(place=2)")

    def test_invalid_results_come_first(self):
        self.check(compiled(FREE_PAIR, LETTERS, (("drop", equal(B, NULL)), set_c(choose((equal(A, B), NULL),
                                                                                        otherwise=A)))),
                   "InvalidResults(place=1)")
        self.check(compiled(ONE, NO_X, (("drop", equal(A, ("cell", "k"))), set_c(A))), "InvalidResults(place=1)")


if __name__ == "__main__":
    unittest.main()
