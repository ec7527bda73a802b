"""Migrations: compiled, given by results, reduced, applied to records and databases [160] to [168]."""

import itertools
import random
import unittest

from migraproof.cases import cases, fixture
from migraproof.counting import many_candidates
from migraproof.migrations import compiled, examples, first_use, from_results, identity, migrated, reduced, result
from migraproof.records import exchanged, renamed
from migraproof.schemas import constants_of
from migraproof.scripts import applied
from samples import (FREE_PAIR, IMPOSSIBLE, MIXED, NULL, ONE, OPTIONAL, PAIR, SPLIT, TAGGED, X, choose, column, equal,
                     random_result, random_script, set_a, table, text, texts_in, unequal, valid_over, values)
from support import raised_text

A, B = column("t.a"), column("t.b")
Y = ("cell", "y")
TWO = ((table("t", text("a"), text("b")),), ())
VALUES_301 = ((table("t", values("s", 300, True)),), ())
K299 = tuple(sorted(f"k{number}" for number in range(299)))
K300 = tuple(sorted((*K299, "v1")))


def one(name):
    return ((name,),)


def shown_to_be_needed(schemas, texts, function):
    """The needed constants of a function, by their definition: the fewest such that renamings that keep them do not
    matter. All texts of the function are among the texts; `texts` has enough others besides."""
    fixed = {*constants_of(schemas[0]), *constants_of(schemas[1])}
    results = {record: function(record) for record in valid_over(schemas[0], texts)}

    def alike(first, second):
        for record, given in results.items():
            expected = None if given is None else exchanged(given, first, second)
            if results[exchanged(record, first, second)] != expected:
                return False
        return True

    unlike = [pair for pair in itertools.combinations([name for name in texts if name not in fixed], 2)
              if not alike(*pair)]
    for many in range(len(texts)):
        found = [kept for kept in itertools.combinations(texts, many)
                 if fixed <= set(kept) and all(set(pair) & set(kept) for pair in unlike)]
        if found:
            assert len(found) == 1
            return tuple(sorted(found[0]))


class Compiled(unittest.TestCase):
    def test_a_script_that_drops(self):
        found = compiled(ONE, ONE, (("drop", equal(A, X)), set_a(A)))
        self.assertEqual(found, (ONE, ONE, ("x",), (None, one("v1"))))
        found = compiled(TWO, ONE, (("drop", equal(A, B)), set_a(B)))
        self.assertEqual(found, (TWO, ONE, (), (None, one("v2"))))

    def test_a_script_that_leaves_rows_out(self):
        target = ((table("t", text("a"), optional=True), table("u", text("b"), optional=True)), ())
        script = (("when", "t", unequal(B, NULL)), set_a(A), ("when", "u", equal(A, X)), ("set", "u", "b", B))
        self.assertEqual(compiled(FREE_PAIR, target, script), (
            FREE_PAIR, target, ("x",),
            ((None, (None,)), (("x",), ("x",)), (("x",), ("v1",)), None, (("v1",), None), (("v1",), None),
             (("v1",), None))))

    def test_point_163(self):
        # u.a = if t.a = "x" then "x" else t.a; and u.a = if t.a = "x" then "y" else t.a;
        target = ((table("u", text("a")),), ())
        for word, constants in ((X, ()), (Y, ("x", "y"))):
            script = (("set", "u", "a", choose((equal(A, X), word), otherwise=A)),)
            self.assertEqual(compiled(ONE, target, script)[2], constants)

    def test_texts_that_are_needed_and_texts_that_are_not(self):
        for expression, constants in (
            (A, ()), (X, ("x",)), (choose((unequal(A, X), Y), otherwise=Y), ("y",)),
            (choose((equal(A, X), Y), otherwise=X), ("x", "y")), (choose((equal(A, X), A), otherwise=A), ()),
            (choose((("or", (equal(A, X), equal(A, Y))), X), otherwise=A), ("x", "y")),
            (choose((("and", (equal(A, X), equal(A, Y))), X), otherwise=A), ()),
            (choose((equal(X, Y), X), otherwise=A), ()),
        ):
            self.assertEqual(compiled(ONE, ONE, (set_a(expression),))[2], constants)
        self.assertEqual(compiled(ONE, ONE, (("drop", ("and", (equal(A, X), equal(A, Y)))), set_a(A)))[2], ())
        self.assertEqual(compiled(ONE, ONE, (("drop", ("true",)), set_a(X)))[2], ())

    def test_the_constants_of_the_schemas_are_kept(self):
        source = (ONE[0], (unequal(A, ("cell", "s")),))
        target = (ONE[0], (unequal(A, ("cell", "t")),))
        found = compiled(source, target, (set_a(A),))
        self.assertEqual(found, (source, target, ("s", "t"), (one("t"), one("v1"))))
        self.assertEqual(compiled(IMPOSSIBLE, ONE, (set_a(X),)), (IMPOSSIBLE, ONE, ("y",), ()))

    def test_scripts_that_differ_in_their_words_only(self):
        for first, second in (
            ((("drop", equal(A, X)), set_a(A)), (set_a(choose((equal(A, X), Y), otherwise=A)), ("drop", equal(X, A)))),
            ((set_a(A),), (set_a(choose((equal(A, Y), Y), (equal(A, X), X), otherwise=A)),)),
            ((set_a(choose((equal(A, X), Y), otherwise=A)),), (set_a(choose((unequal(A, X), A), otherwise=Y)),)),
            ((("drop", equal(A, X)), ("drop", equal(A, Y)), set_a(A)),
             (("drop", ("or", (equal(A, Y), equal(A, X)))), set_a(A))),
        ):
            self.assertEqual(compiled(ONE, ONE, first), compiled(ONE, ONE, second))
        self.assertNotEqual(compiled(ONE, ONE, (set_a(X),)), compiled(ONE, ONE, (set_a(Y),)))
        # A value cannot be other than w0 or w1 there, and b is never null if it differs from null.
        tag = column("t.s")
        self.assertEqual(compiled(TAGGED, ONE, (("drop", equal(tag, ("cell", ("w0",)))), set_a(A))),
                         compiled(TAGGED, ONE, (("drop", unequal(tag, ("cell", ("w1",)))), set_a(A))))

    def test_the_effect_of_random_scripts_and_their_needed_constants(self):
        rng = random.Random(7)
        for source, target in itertools.product((ONE, FREE_PAIR, PAIR, SPLIT), (ONE, FREE_PAIR, OPTIONAL, SPLIT)):
            for texts in (("k",), ("k", "x")):
                script = random_script(rng, source, target, texts)
                pool = ("k", "m", "v1", "x", "p")
                found = compiled(source, target, script)
                with self.subTest(source=source, target=target, script=script):
                    needed = shown_to_be_needed((source, target), pool,
                                                lambda record: applied(source, target, script, record))
                    self.assertEqual(found[:3], (source, target, needed))
                    self.assertEqual(reduced(found), found)
                    for record in valid_over(source, pool):
                        self.assertEqual(result(found, record), applied(source, target, script, record))

    def test_too_many_candidates(self):
        words = [("drop", equal(A, ("cell", name))) for name in K300]
        self.assertEqual(len(compiled(ONE, ONE, (*words[:38], set_a(A)))[3]), 39)
        all_words = ("drop", ("or", tuple(rule[1] for rule in words)))
        self.assertEqual(raised_text(compiled, ONE, ONE, (all_words, set_a(A))), "TooManyCases(count=301)")
        fewer = ("drop", ("or", tuple(rule[1] for rule in words[:299])))
        self.assertEqual(len(compiled(ONE, ONE, (fewer, set_a(A)))[3]), 300)

    def test_too_many_candidates_although_fewer_constants_are_needed(self):
        useless = ("drop", ("and", tuple(equal(A, ("cell", name)) for name in K300)))
        self.assertEqual(raised_text(compiled, ONE, ONE, (useless, set_a(A))), "TooManyCases(count=301)")
        four = ("drop", ("and", tuple(equal(A, ("cell", name)) for name in K300[:4])))
        sets = tuple(("set", name, at, NULL) for name, _, columns in MIXED[0] for at, _, _ in columns)
        many = many_candidates(MIXED, 4)
        self.assertEqual(raised_text(compiled, ONE, MIXED, (four, *sets)), f"TooManyCases(count={many})")
        self.assertEqual(compiled(ONE, MIXED, sets)[2], ())

    def test_the_source_before_the_target(self):
        larger = ((table("t", values("s", 300), values("k", 2)),), ())
        to_larger = (("set", "t", "s", NULL), ("set", "t", "k", NULL))
        self.assertEqual(raised_text(compiled, VALUES_301, larger, to_larger), "TooManyCases(count=301)")
        self.assertEqual(raised_text(compiled, larger, VALUES_301, to_larger[:1]), "TooManyCases(count=600)")
        self.assertEqual(raised_text(compiled, ONE, VALUES_301, to_larger[:1]), "TooManyCases(count=301)")

    def test_the_constants_of_the_target_count_for_the_source(self):
        target = (ONE[0], (("and", tuple(unequal(A, ("cell", name)) for name in K299)),))
        self.assertEqual(raised_text(compiled, ONE, target, (set_a(("cell", "v1")),)), "TooManyCases(count=301)")
        self.assertEqual(compiled(ONE, target, (set_a(A),))[2], K299)


class FromResults(unittest.TestCase):
    def test_without_own_texts(self):
        self.assertEqual(from_results(ONE, ONE, (one("v1"),)), identity(ONE))
        self.assertEqual(from_results(PAIR, ONE, (None, one("v2"))), (PAIR, ONE, (), (None, one("v2"))))
        self.assertEqual(from_results(IMPOSSIBLE, ONE, ()), (IMPOSSIBLE, ONE, ("y",), ()))

    def test_with_own_texts(self):
        results = (one("y"), one("y"), one("v1"))
        expected = (ONE, ONE, ("x", "y"), results)
        self.assertEqual(from_results(ONE, ONE, results, own=("y", "x")), expected)
        self.assertEqual(from_results(ONE, ONE, results, own=("x", "y", "x")), expected)
        self.assertEqual(from_results(ONE, ONE, (one("k"), *results), own=("x", "y", "k")), expected)
        self.assertEqual(from_results(ONE, ONE, (one("x"), one("y"), one("v1")), own=("x", "y")), identity(ONE))

    def test_results_that_are_not_valid(self):
        results = (((None, None),), (("v1", "v1"),))
        self.assertEqual(from_results(PAIR, PAIR, results), (PAIR, PAIR, (), results))
        target = ((table("t", values("s", 2)),), ())
        self.assertEqual(from_results(ONE, target, (((("odd",),),),))[3], (((("odd",),),),))

    def test_wrong_many(self):
        for results in ((), (None, None), (None,) * 3):
            self.assertEqual(raised_text(from_results, ONE, ONE, results), "WrongMany(count=1)")
        self.assertEqual(raised_text(from_results, ONE, ONE, (None, None), own=("x", "y")), "WrongMany(count=3)")
        self.assertEqual(raised_text(from_results, PAIR, ONE, (None,) * 3), "WrongMany(count=2)")
        self.assertEqual(raised_text(from_results, IMPOSSIBLE, ONE, (None,)), "WrongMany(count=0)")

    def test_wrong_result(self):
        for target, given in (
            (ONE, (("v1", "v1"),)), (ONE, (("v1",), ("v1",))), (ONE, (None,)), (ONE, ((("v1",),),)),
            (OPTIONAL, (None, None)), (OPTIONAL, (("v1",), ("v1", "v1"))), (OPTIONAL, (("v1",),)),
        ):
            self.assertEqual(raised_text(from_results, PAIR, target, (None, given)), "WrongResult(place=1)")
            self.assertEqual(raised_text(from_results, PAIR, target, (given, given)), "WrongResult(place=0)")

    def test_unknown_text(self):
        for given, name in ((("v2", "v1"), "v2"), (("v1", "z"), "z"), (("z", "v2"), "z"), ((None, ""), ""),
                            (("x", "V1"), "V1"), (("v1", "v2"), "v2")):
            self.assertEqual(raised_text(from_results, ONE, FREE_PAIR, (None, (given,)), own=("x",)),
                             f"UnknownText(place=1, text={name!r})")
        self.assertEqual(raised_text(from_results, ONE, FREE_PAIR, (((("v1"), None),), None), own=("x",)),
                         "UnknownText(place=0, text='v1')")
        two_tables = ((table("t", text("a")), table("u", text("b"), text("c"))), ())
        self.assertEqual(raised_text(from_results, ONE, two_tables, ((("v1",), (None, "m")),)),
                         "UnknownText(place=0, text='m')")

    def test_the_texts_of_the_record_and_all_constants_are_known(self):
        results = (((None, "x"),), (("x", "v1"),), (("v1", "v1"),))
        records = fixture(ONE, FREE_PAIR, own=("w", "x"))[1]
        self.assertEqual(records, (one("w"), one("x"), one("v1")))
        self.assertEqual(raised_text(from_results, ONE, FREE_PAIR, results, own=("w", "x")),
                         "UnknownText(place=1, text='v1')")
        results = (((None, "x"),), (("x", "w"),), (("v1", "v1"),))
        self.assertEqual(from_results(ONE, FREE_PAIR, results, own=("w", "x"))[3], results)

    def test_values_are_no_texts(self):
        target = ((table("t", ("s", ("z",), False)),), ())
        self.assertEqual(from_results(ONE, target, (((("z",),),),))[3], (((("z",),),),))

    def test_result_by_result_and_its_shape_before_its_texts(self):
        wrong_shape, wrong_text = (("z", "z"),), one("z")
        for first, second in itertools.permutations((("WrongResult", wrong_shape, ""),
                                                     ("UnknownText", wrong_text, ", text='z'")), 2):
            self.assertEqual(raised_text(from_results, ONE, ONE, (first[1], second[1]), own=("x",)),
                             f"{first[0]}(place=0{first[2]})")
            self.assertEqual(raised_text(from_results, ONE, ONE, (None, first[1]), own=("x",)),
                             f"{first[0]}(place=1{first[2]})")

    def test_the_errors_in_their_order(self):
        self.assertEqual(raised_text(from_results, VALUES_301, ONE, ()), "TooManyCases(count=301)")
        self.assertEqual(raised_text(from_results, ONE, VALUES_301, ()), "TooManyCases(count=301)")
        self.assertEqual(raised_text(from_results, MIXED, VALUES_301, (), own=("x", "y", "z")),
                         f"TooManyCases(count={many_candidates(MIXED, 3)})")
        self.assertEqual(raised_text(from_results, ONE, ONE, (one("z"),), own=("x",)), "WrongMany(count=2)")

    def test_random_results_have_the_effect_that_is_given(self):
        rng = random.Random(8)
        for source, target, own in itertools.product((PAIR, SPLIT, TAGGED), (FREE_PAIR, OPTIONAL), ((), ("k",))):
            constants, records = fixture(source, target, own=own)
            results = tuple(random_result(rng, target, (*constants, *texts_in(record))) for record in records)
            found = from_results(source, target, results, own=own)
            self.assertEqual([result(found, record) for record in records], list(results))
            self.assertEqual(reduced((source, target, constants, results)), found)


class Identity(unittest.TestCase):
    def test_it_changes_nothing(self):
        for schema in (ONE, PAIR, OPTIONAL, TAGGED, SPLIT, IMPOSSIBLE):
            found = identity(schema)
            self.assertEqual(found, (schema, schema, constants_of(schema), cases(schema, constants_of(schema))))
            self.assertEqual(reduced(found), found)
            for record in valid_over(schema, ("x", "p", "v2", "v1")):
                self.assertEqual(result(found, record), record)

    def test_it_is_the_migration_of_the_script_that_copies(self):
        for schema in (ONE, PAIR, TAGGED):
            sets = tuple(("set", name, at, ("column", name, at)) for name, _, columns in schema[0]
                         for at, _, _ in columns)
            self.assertEqual(compiled(schema, schema, sets), identity(schema))

    def test_too_many(self):
        self.assertEqual(raised_text(identity, VALUES_301), "TooManyCases(count=301)")


class Reduced(unittest.TestCase):
    def test_none_can_be_left_out(self):
        for migration in ((ONE, ONE, ("x", "y"), (one("y"), one("x"), one("v1"))),
                          (ONE, ONE, ("x",), (None, one("v1"))), (ONE, ONE, ("x",), (one("x"), None)),
                          (ONE, ONE, ("x",), (one("x"), one("x"))), (ONE, ONE, (), (one("v1"),))):
            self.assertEqual(reduced(migration), migration)

    def test_some_can_be_left_out(self):
        results = (one("a"), one("y"), one("y"), one("v1"))
        self.assertEqual(reduced((ONE, ONE, ("a", "x", "y"), results)), (ONE, ONE, ("x", "y"), results[1:]))
        self.assertEqual(reduced((ONE, ONE, ("v1", "v3"), (one("v1"), None, one("v2")))),
                         (ONE, ONE, ("v3",), (None, one("v1"))))

    def test_all_can_be_left_out(self):
        for constants in (("x",), ("v1",), ("v1", "v2", "x"), K299):
            migration = (ONE, ONE, constants, cases(ONE, constants))
            self.assertEqual(reduced(migration), identity(ONE))
            dropping = (ONE, ONE, constants, (None,) * (len(constants) + 1))
            self.assertEqual(reduced(dropping), (ONE, ONE, (), (None,)))

    def test_the_constants_of_the_schemas_are_kept(self):
        records = cases(TAGGED, ("k", "x"))
        self.assertEqual(reduced((TAGGED, TAGGED, ("k", "x"), records)), identity(TAGGED))
        target = (ONE[0], (unequal(A, X),))
        self.assertEqual(reduced((ONE, target, ("k", "x"), (one("k"), one("x"), one("v1")))),
                         (ONE, target, ("x",), (one("x"), one("v1"))))

    def test_texts_that_are_needed_only_together_with_a_partner(self):
        # Only the record with x and y, in this order, is dropped.
        records = cases(TWO, ("k", "x", "y"))
        results = tuple(None if record == (("x", "y"),) else record for record in records)
        found = reduced((TWO, TWO, ("k", "x", "y"), results))
        self.assertEqual(found[2], ("x", "y"))
        # The text x matters only beside another text.
        results = tuple((("x", "x"),) if record[0][0] == "x" != record[0][1] else record for record in records)
        self.assertEqual(reduced((TWO, TWO, ("k", "x", "y"), results))[2], ("x",))

    def test_a_text_that_only_results_contain(self):
        records = cases(TWO, ("k", "x"))
        results = tuple((("x", "x"),) if record[0][0] == record[0][1] else record for record in records)
        self.assertEqual(reduced((TWO, TWO, ("k", "x"), results)),
                         (TWO, TWO, ("x",), tuple((("x", "x"),) if record[0][0] == record[0][1] else record
                                                  for record in cases(TWO, ("x",)))))

    def test_its_own_result_stays(self):
        rng = random.Random(9)
        for source, target in ((TWO, TWO), (PAIR, OPTIONAL), (TAGGED, FREE_PAIR)):
            constants = tuple(sorted({"k", "m", *constants_of(source), *constants_of(target)}))
            for _ in range(5):
                given = [random_result(rng, target, (*constants, *texts_in(record)), drops=0.5)
                         for record in cases(source, constants)]
                migration = (source, target, constants, tuple(given))
                found = reduced(migration)
                self.assertEqual(reduced(found), found)
                for record in valid_over(source, ("k", "m", "x", "p", "v1")):
                    self.assertEqual(result(found, record), result(migration, record))

    def test_both_ways_of_writing_a_function_with_more_constants(self):
        base = compiled(TWO, ONE, (("drop", equal(A, X)), set_a(choose((equal(A, B), Y), otherwise=B))))
        self.assertEqual(base[2], ("x", "y"))
        for more in (("k",), ("v1", "v2"), ("", "z")):
            constants = tuple(sorted((*base[2], *more)))
            larger = (TWO, ONE, constants, tuple(result(base, record) for record in cases(TWO, constants)))
            self.assertEqual(reduced(larger), base)


class FirstUse(unittest.TestCase):
    def expected(self, migration, name):
        """The first case and partner, by trying as [163] tells."""
        source, _, constants, results = migration
        for case, given in zip(cases(source, constants), results):
            free = [word for word in texts_in(case) if word not in constants]
            fresh = next(f"v{k}" for k in range(1, 30) if f"v{k}" not in (*constants, *free))
            for partner in (*free, fresh):
                swapped = None if given is None else exchanged(given, name, partner)
                if result(migration, exchanged(case, name, partner)) != swapped:
                    return (case, partner)
        return None

    def test_the_first_case_and_its_first_partner(self):
        swap = compiled(ONE, ONE, (("drop", equal(A, ("cell", "z"))), set_a(choose((equal(A, X), Y), otherwise=A))))
        self.assertEqual(first_use(swap, "x"), (one("x"), "v1"))
        self.assertEqual(first_use(swap, "y"), (one("x"), "v1"))
        self.assertEqual(first_use(swap, "z"), (one("z"), "v1"))

    def test_the_free_texts_come_before_the_sample_text_that_does_not_occur(self):
        second = compiled(TWO, ONE, (("drop", equal(B, X)), set_a(A)))
        self.assertEqual(cases(TWO, ("x",))[2], (("v1", "x"),))
        self.assertEqual(first_use(second, "x"), ((("x", "x"),), "v1"))
        only_beside = compiled(TWO, ONE, (("drop", ("and", (equal(B, X), unequal(A, X)))), set_a(A)))
        self.assertEqual(first_use(only_beside, "x"), ((("x", "v1"),), "v1"))
        constant = compiled(TWO, TWO, (set_a(choose((unequal(A, B), X), otherwise=A)), ("set", "t", "b", B)))
        self.assertEqual(first_use(constant, "x"), ((("x", "v1"),), "v1"))
        third = (TWO, TWO, ("x",), ((("x", "x"),), (("x", "v1"),), (("v1", "x"),), (("v1", "v1"),), (("x", "v2"),)))
        self.assertEqual(first_use(third, "x"), ((("x", "v1"),), "v2"))

    def test_a_sample_text_that_is_a_constant(self):
        migration = (ONE, ONE, ("v1", "v2"), (None, one("v2"), one("v3")))
        self.assertEqual(first_use(migration, "v1"), (one("v1"), "v3"))
        self.assertIsNone(first_use(migration, "v2"))

    def test_texts_that_are_not_needed(self):
        self.assertIsNone(first_use((ONE, ONE, ("k", "x"), (one("k"), None, one("v1"))), "k"))
        self.assertIsNone(first_use((TWO, TWO, ("k",), cases(TWO, ("k",))), "k"))
        self.assertIsNone(first_use((ONE, ONE, ("k",), (None, None)), "k"))

    def test_against_the_words_of_the_document(self):
        rng = random.Random(10)
        found = []
        for source, target in ((TWO, ONE), (TAGGED, FREE_PAIR), (SPLIT, OPTIONAL), (FREE_PAIR, SPLIT)):
            constants = tuple(sorted({"k", "v1", *constants_of(source), *constants_of(target)}))
            records = cases(source, constants)
            for drops in (0.02, 0.5, 1):
                given = tuple(random_result(rng, target, (*constants, *texts_in(record)), drops) if rng.random() < 0.1
                              else None for record in records)
                for name in ("k", "v1"):
                    migration = (source, target, constants, given)
                    found.append(first_use(migration, name))
                    self.assertEqual(found[-1], self.expected(migration, name))
        self.assertIn(None, found)
        self.assertGreater(len(set(found)), 4)


class Examples(unittest.TestCase):
    def test_pairs_in_the_order_of_the_cases(self):
        migration = compiled(TAGGED, ONE, (("drop", equal(A, B)), set_a(B)))
        self.assertEqual(examples(migration), tuple(zip(cases(TAGGED, migration[2]), migration[3])))
        self.assertEqual(examples(identity(IMPOSSIBLE)), ())


class Result(unittest.TestCase):
    MIGRATION = compiled(PAIR, TWO, (("drop", equal(A, X)), set_a(A),
                                     ("set", "t", "b", choose((equal(B, NULL), Y), otherwise=B))))

    def test_free_texts_other_than_the_sample_texts(self):
        self.assertEqual(self.MIGRATION[2], ("x", "y"))
        for record, expected in (((("p", None),), (("p", "y"),)), ((("p", "q"),), (("p", "q"),)),
                                 ((("v2", "v1"),), (("v2", "v1"),)), ((("", "y"),), (("", "y"),)),
                                 ((("y", "x"),), (("y", "x"),)), ((("c1", "X"),), (("c1", "X"),))):
            self.assertEqual(result(self.MIGRATION, record), expected)

    def test_free_texts_that_are_constants_of_other_migrations(self):
        without = compiled(ONE, ONE, (set_a(choose((equal(A, X), Y), otherwise=A)),))
        for name in ("z", "k", "v1", "v2", "c1", "xx"):
            self.assertEqual(result(without, one(name)), one(name))
        self.assertEqual(result(without, one("x")), one("y"))
        self.assertEqual(result(identity(ONE), one("x")), one("x"))

    def test_dropped_records(self):
        for cell in (None, "p", "y", "v1"):
            self.assertIsNone(result(self.MIGRATION, (("x", cell),)))

    def test_records_that_are_not_valid(self):
        for record in ((("p", "p"),), ((None, "p"),), (("p", ("q",)),), ((("p",), None),), (("p",),), ((),), (),
                       (None,), (("p", None), None), (None, None), (("p", "q", "r"),), ((),) * 10, (None,) * 10):
            self.assertEqual(raised_text(result, self.MIGRATION, record), "InvalidRecord(key=None)")
        self.assertEqual(raised_text(result, identity(OPTIONAL), (None, None)), "InvalidRecord(key=None)")


class Migrated(unittest.TestCase):
    MIGRATION = Result.MIGRATION

    def test_in_the_order_of_the_pairs_without_dropped_ones(self):
        database = (("k2", (("p", "q"),)), ("", (("x", None),)), ("k1", (("p", None),)), ("x", (("x", "y"),)),
                    ("k0", (("q", "p"),)))
        self.assertEqual(migrated(self.MIGRATION, database),
                         (("k2", (("p", "q"),)), ("k1", (("p", "y"),)), ("k0", (("q", "p"),))))

    def test_the_empty_database(self):
        self.assertEqual(migrated(self.MIGRATION, ()), ())
        self.assertEqual(migrated(identity(IMPOSSIBLE), ()), ())

    def test_all_dropped(self):
        self.assertEqual(migrated(self.MIGRATION, (("a", (("x", None),)), ("b", (("x", None),)))), ())

    def test_the_first_invalid_record(self):
        good, bad = (("p", None),), (("p", "p"),)
        for places in (("a",), ("a", "b"), ("c",)):
            database = tuple((key, bad if key in places else good) for key in ("b0", "a", "", "b", "c"))
            self.assertEqual(raised_text(migrated, self.MIGRATION, database), f"InvalidRecord(key={places[0]!r})")
        self.assertEqual(raised_text(migrated, self.MIGRATION, (("", ()),)), "InvalidRecord(key='')")
        self.assertEqual(raised_text(migrated, self.MIGRATION, (("k", ((),)),)), "InvalidRecord(key='k')")
        self.assertEqual(raised_text(migrated, self.MIGRATION, (("d", (("x", None),)), ("e", (None,)))),
                         "InvalidRecord(key='e')")

    def test_each_record_by_itself(self):
        rng = random.Random(11)
        script = random_script(rng, TAGGED, SPLIT, ("x", "m"))
        migration = compiled(TAGGED, SPLIT, script)
        records = rng.sample(valid_over(TAGGED, ("x", "m", "p")), 8)
        database = tuple((f"key{number}", record) for number, record in enumerate(records))
        expected = [(key, applied(TAGGED, SPLIT, script, record)) for key, record in database]
        self.assertEqual(migrated(migration, database), tuple(pair for pair in expected if pair[1] is not None))


class ThePoint161(unittest.TestCase):
    def test_the_effect_treats_all_texts_alike_except_the_constants(self):
        rng = random.Random(12)
        for source, target in ((TAGGED, SPLIT), (SPLIT, FREE_PAIR)):
            found = compiled(source, target, random_script(rng, source, target, ("x", "m")))
            names = ("p", "q", "r", "v1", "m", "x")
            for news in (("q", "r", "p", "a", "m", "x"), ("v1", "v2", "v3", "v4", "m", "x")):
                pairs = tuple(zip(names, news))
                for record in valid_over(source, ("m", "x", "p", "q")):
                    given = result(found, record)
                    self.assertEqual(result(found, renamed(record, pairs)), given and renamed(given, pairs))


if __name__ == "__main__":
    unittest.main()
