"""Text rows and archives [243] to [247]."""

import itertools
import random
import unittest

from migraproof.analysis import is_lossless
from migraproof.archives import archive, many_text_rows, text_rows
from migraproof.capacity import capacity
from migraproof.cases import cases
from migraproof.counting import many_candidates
from migraproof.fibres import archive_size, groups
from migraproof.migrations import compiled, examples, from_results, identity, migrated, reduced, result
from migraproof.polynomials import multiplied
from migraproof.records import canonical, renamed
from migraproof.recovery import recover_record
from migraproof.schemas import check_schema, is_valid
from samples import (FREE_PAIR, IMPOSSIBLE, LETTERS, NULL, ONE, PAIR, SPLIT, TAGGED, TAGS, TWO, X, choose, column,
                     equal, random_valid_results, results_of, set_c, set_d, table, tags, text, texts_in, unequal,
                     valid_over, values)
from support import raised_text

A, B = column("t.a"), column("t.b")
C = column("u.c")
S = column("t.s")
Y = ("cell", "y")
W0 = ("cell", ("w0",))
THREE = ((table("t", text("a"), text("b"), text("c")),), ())
NO_X = (LETTERS[0], (unequal(C, X),))
FLAGS = ((table("t", text("a"), values("s", 5)),), ())
MOST = [f"m{number}" for number in range(300)]


def samples_for(texts, many):
    return [name for name in (f"v{number}" for number in range(1, 700)) if name not in texts][:many]


def listed_rows(texts, columns, many):
    """R(K, w, k), picked from all rows of w texts."""
    samples = samples_for(texts, many)
    return tuple(row for row in itertools.product((*texts, *samples), repeat=columns)
                 if [name for name in dict.fromkeys(row) if name not in texts] == samples)


def free(record, constants):
    return [name for name in texts_in(record) if name not in constants]


def constants_for(migration, many):
    """The constants of the migration with the first spare texts, ascending."""
    spare = [name for name in (f"c{number}" for number in range(1, 400)) if name not in migration[2]]
    return tuple(sorted({*migration[2], *spare[:many]}))


def numbered_groups(migration, constants):
    """For each group and number of hidden texts the list of the triples of case, result and hidden texts."""
    found = {}
    records = cases(migration[0], constants)
    for case, given in zip(records, results_of(migration, records)):
        hidden = tuple(name for name in free(case, constants) if name not in texts_in(given))
        found.setdefault((canonical(given, constants), len(hidden)), []).append((case, given, hidden))
    return found


def spare_for(migration):
    """The number e, from the listed rows."""
    columns, many_values = archive_size(migration)
    for many in range(99):
        constants = constants_for(migration, many)
        if all(len(rows) <= many_values * len(listed_rows((*constants, *free(form, constants)), columns, hidden))
               for (form, hidden), rows in numbered_groups(migration, constants).items()):
            return many
    return None


def archived_results(migration):
    """The constants and a dict with the result of each case under the archived migration, as [246] tells them."""
    columns, many_values = archive_size(migration)
    constants = constants_for(migration, spare_for(migration))
    found = {}
    for (_, hidden_many), rows in numbered_groups(migration, constants).items():
        for i, (case, given, hidden) in enumerate(rows):
            shown = (*constants, *free(given, constants))
            every = listed_rows(shown, columns, hidden_many)
            row = dict(zip(samples_for(shown, hidden_many), hidden))
            cells = tuple(row.get(name, name) for name in every[i % len(every)])
            value = () if many_values == 1 else ((f"p{i // len(every) + 1}",),)
            found[case] = (*given, (*value, *cells))
    return constants, found


class TextRows(unittest.TestCase):
    def test_their_order(self):
        for texts, columns, many in itertools.product(
                ((), ("x",), ("x", "b"), ("v1",), ("v2", "a", "v1"), ("v3", "c1", "", "v1")), range(5), range(5)):
            if many <= columns:
                expected = listed_rows(texts, columns, many)
                self.assertEqual(many_text_rows(len(texts), columns, many), len(expected))
                if len(expected) <= 300:
                    self.assertEqual(text_rows(texts, columns, many), expected)

    def test_no_texts(self):
        self.assertEqual(text_rows((), 2, 1), (("v1", "v1"),))
        self.assertEqual(text_rows((), 3, 2), (("v1", "v1", "v2"), ("v1", "v2", "v1"), ("v1", "v2", "v2")))
        self.assertEqual((text_rows((), 1, 0), text_rows((), 8, 0)), ((), ()))
        self.assertEqual(text_rows((), 8, 8), (tuple(f"v{number}" for number in range(1, 9)),))
        self.assertEqual(len(text_rows((), 8, 7)), 28)

    def test_texts_that_look_like_sample_texts(self):
        self.assertEqual(text_rows(("v2", "v1"), 1, 1), (("v3",),))
        self.assertEqual(text_rows(("v2", "v1"), 1, 0), (("v2",), ("v1",)))
        self.assertEqual(text_rows(("v1",), 2, 1), (("v1", "v2"), ("v2", "v1"), ("v2", "v2")))
        self.assertEqual(text_rows(("v2",), 2, 2), (("v1", "v3"),))

    def test_the_order_of_the_texts_is_kept(self):
        self.assertEqual(text_rows(("z", "a", "m"), 1, 0), (("z",), ("a",), ("m",)))
        self.assertEqual(text_rows(("z", "a"), 2, 0), (("z", "z"), ("z", "a"), ("a", "z"), ("a", "a")))

    def test_no_columns(self):
        for texts in ((), ("x",), tuple(MOST)):
            self.assertEqual((text_rows(texts, 0, 0), many_text_rows(len(texts), 0, 0)), (((),), 1))

    def test_many_from_0_to_columns(self):
        for columns in range(4):
            rows = [row for many in range(columns + 1) for row in text_rows(("x", "y"), columns, many)]
            self.assertEqual(len(set(rows)), len(rows))
            self.assertEqual({len(row) for row in rows}, {columns})

    def test_300_rows_and_more(self):
        self.assertEqual(text_rows(tuple(MOST), 1, 0), tuple((name,) for name in MOST))
        self.assertEqual(text_rows(tuple(MOST), 1, 1), (("v1",),))
        # With two columns there are 2 * length + 1 rows with one further text.
        self.assertEqual(len(text_rows(tuple(MOST[:149]), 2, 1)), 299)
        self.assertEqual(raised_text(text_rows, tuple(MOST[:150]), 2, 1), "TooManyCases(count=301)")
        self.assertEqual(raised_text(text_rows, tuple(MOST), 2, 0), "TooManyCases(count=90000)")
        self.assertEqual(raised_text(text_rows, tuple(MOST[:18]), 2, 0), "TooManyCases(count=324)")
        self.assertEqual(len(text_rows(tuple(MOST[:17]), 2, 0)), 289)
        self.assertEqual(raised_text(text_rows, (), 8, 3), f"TooManyCases(count={many_text_rows(0, 8, 3)})")
        self.assertEqual(many_text_rows(0, 8, 3), 966)

    def test_many_text_rows(self):
        for length, columns in itertools.product((0, 1, 2, 3, 4), range(6)):
            every = [tuple(dict.fromkeys(row)) for row in itertools.product(range(length + columns), repeat=columns)]
            for many in range(columns + 1):
                new = tuple(range(length, length + many))
                expected = [row for row in every if tuple(name for name in row if name >= length) == new]
                self.assertEqual(many_text_rows(length, columns, many), len(expected))

    def test_great_numbers(self):
        self.assertEqual(many_text_rows(300, 8, 0), 300 ** 8)
        self.assertEqual(many_text_rows(300, 8, 8), 1)
        self.assertEqual(many_text_rows(300, 8, 7), sum(range(300, 308)))
        self.assertEqual(many_text_rows(0, 8, 4), 1701)
        self.assertEqual(sum(many_text_rows(0, 8, many) for many in range(9)), 4140)


class Archived(unittest.TestCase):
    def check(self, migration, name="archive", expected_size=None):
        """What [244] to [247] say of any migration; returns the archived one."""
        source, target = migration[:2]
        size = archive_size(migration)
        archived = archive(migration)
        if expected_size is not None:
            self.assertEqual(size, expected_size)
        if size == (0, 1):
            self.assertEqual(archived, migration)
            return archived
        columns, many = size
        kinds = [("value", tuple(f"p{number}" for number in range(1, many + 1)), False)] if many > 1 else []
        new = (name, False, (*kinds, *[(f"text{number}", "text", False) for number in range(1, columns + 1)]))
        self.assertEqual(archived[:2], (source, ((*target[0], new), target[1])))
        self.assertIsNone(check_schema(archived[1]))
        self.assertEqual(reduced(archived), archived)
        constants, expected = archived_results(migration)
        self.assertEqual({case: result(archived, case) for case in cases(source, constants)}, expected)
        self.assertLessEqual(set(archived[2]), set(constants))
        self.assertTrue(is_lossless(archived))
        self.assertIsNone(recover_record(archived)[1])
        pool = tuple(sorted({*constants, "p", "q"}))[:6]
        if set(identity(source)[2]) <= set(pool):
            for record in valid_over(source, pool)[:40]:
                self.assertEqual(result(archived, record)[:-1], result(migration, record))
        return archived

    def test_migrations_that_lose_nothing(self):
        for migration in (identity(ONE), identity(SPLIT), compiled(ONE, TWO, (set_c(A), set_d(X))),
                          from_results(IMPOSSIBLE, ONE, ())):
            self.check(migration, expected_size=(0, 1))

    def test_values_only(self):
        archived = self.check(compiled(FLAGS, LETTERS, (set_c(A),)), expected_size=(0, 5))
        self.assertEqual(examples(archived), tuple(
            ((("v1", (f"w{number}",)),), (("v1",), ((f"p{number + 1}",),))) for number in range(5)))
        # The group of the first case needs fewer values than the other one.
        flagged = ((table("u", text("c"), values("s", 2)),), ())
        archived = self.check(compiled(FLAGS, flagged, (set_c(A), tags(equal(S, W0)))), expected_size=(0, 4))
        self.assertEqual([given[1] for _, given in examples(archived)],
                         [(("p1",),), (("p1",),), (("p2",),), (("p3",),), (("p4",),)])

    def test_texts_only(self):
        archived = self.check(compiled(THREE, TWO, (set_c(A), set_d(B))), expected_size=(1, 1))
        self.assertEqual(examples(archived), (
            ((("v1", "v1", "v1"),), (("v1", "v1"), ("v1",))), ((("v1", "v1", "v2"),), (("v1", "v1"), ("v2",))),
            ((("v1", "v2", "v1"),), (("v1", "v2"), ("v1",))), ((("v1", "v2", "v2"),), (("v1", "v2"), ("v2",))),
            ((("v1", "v2", "v3"),), (("v1", "v2"), ("v3",)))))
        archived = self.check(compiled(THREE, LETTERS, (set_c(B),)), expected_size=(2, 1))
        self.assertEqual([given for _, given in examples(archived)], [
            (("v1",), ("v1", "v1")), (("v1",), ("v1", "v2")), (("v2",), ("v1", "v2")), (("v2",), ("v1", "v1")),
            (("v2",), ("v1", "v3"))])

    def test_both(self):
        archived = self.check(compiled(FREE_PAIR, LETTERS, (set_c(A),)), expected_size=(1, 2))
        self.assertEqual(examples(archived), (
            ((("v1", None),), (("v1",), (("p1",), "v1"))), ((("v1", "v1"),), (("v1",), (("p2",), "v1"))),
            ((("v1", "v2"),), (("v1",), (("p1",), "v2")))))
        self.check(compiled(FLAGS, TAGS, (tags(("true",)),)), expected_size=(1, 5))

    def test_the_number_of_a_case_is_that_among_those_with_as_many_hidden_texts(self):
        source = ((table("t", text("a"), text("b", True), values("s", 2)),), ())
        archived = self.check(compiled(source, LETTERS, (set_c(A),)), expected_size=(1, 3))
        # With c constants there are 2 + 2 c cases for a result that is one, and 3 c archive rows for them.
        self.assertEqual(archived[2], ("c1", "c2"))
        self.assertEqual([(*case[0][1:], *given[1]) for case, given in examples(archived) if given[0] == ("v1",)], [
            (None, ("w0",), ("p1",), "c1"), (None, ("w1",), ("p1",), "c2"), ("c1", ("w0",), ("p1",), "v1"),
            ("c1", ("w1",), ("p2",), "c1"), ("c2", ("w0",), ("p2",), "c2"), ("c2", ("w1",), ("p2",), "v1"),
            ("v1", ("w0",), ("p3",), "c1"), ("v1", ("w1",), ("p3",), "c2"), ("v2", ("w0",), ("p1",), "v2"),
            ("v2", ("w1",), ("p2",), "v2")])

    def test_migrations_with_constants(self):
        same = compiled(ONE, LETTERS, (set_c(choose((equal(A, X), Y), otherwise=A)),))
        archived = self.check(same, expected_size=(0, 2))
        self.assertEqual(archived[2:], (("x", "y"), (
            (("y",), (("p1",),)), (("y",), (("p2",),)), (("v1",), (("p1",),)))))
        lost = compiled(FREE_PAIR, LETTERS, (set_c(choose((equal(B, X), X), otherwise=A)),))
        self.check(lost)
        self.check(compiled(PAIR, TAGS, (tags(equal(A, X)),)))
        to_no_x = compiled(FREE_PAIR, NO_X, (set_c(choose((equal(A, X), Y), otherwise=A)),))
        self.check(to_no_x)
        looking = compiled(FREE_PAIR, LETTERS, (set_c(choose((equal(A, ("cell", "v1")), ("cell", "c1")),
                                                             otherwise=A)),))
        self.assertEqual(looking[2], ("c1", "v1"))
        self.check(looking)

    def test_spare_texts_that_are_needed(self):
        # With c constants there are 4 + c cases without a hidden text, and 2 c archive rows for them.
        either = ((table("t", values("s", 4), optional=True), table("p", text("b"), optional=True)),
                  (("or", (("not", ("exists", "t")), ("not", ("exists", "p")))),))
        migration = compiled(either, TAGS, (tags(("true",)),))
        self.assertEqual((archive_size(migration), spare_for(migration)), ((1, 2), 4))
        archived = self.check(migration)
        self.assertEqual(archived[2], ("c1", "c2", "c3", "c4"))
        self.assertEqual([(case, given[1]) for case, given in examples(archived)], [
            ((None, ("c1",)), (("p1",), "c1")), ((None, ("c2",)), (("p1",), "c2")),
            ((None, ("c3",)), (("p1",), "c3")), ((None, ("c4",)), (("p1",), "c4")),
            ((None, ("v1",)), (("p1",), "v1")),
            (((("w0",),), None), (("p2",), "c1")), (((("w1",),), None), (("p2",), "c2")),
            (((("w2",),), None), (("p2",), "c3")), (((("w3",),), None), (("p2",), "c4"))])

    def test_spare_texts_of_a_migration_with_such_constants(self):
        either = ((table("t", values("s", 6), optional=True), table("p", text("b"), optional=True)),
                  (("or", (("not", ("exists", "t")), ("not", ("exists", "p")))),))
        for name in ("c1", "c2", "z"):
            word = column("p.b")
            migration = compiled(either, LETTERS, (set_c(choose((equal(word, ("cell", name)), Y), otherwise=X)),))
            self.assertGreater(spare_for(migration), 0)
            self.check(migration)

    def test_the_name_of_the_archive(self):
        target = ((table("u", text("c")), table("archive", text("d", True))), ())
        rest = ("set", "archive", "d", NULL)
        self.check(compiled(FREE_PAIR, target, (set_c(A), rest)), "archive2")
        target = ((*target[0], table("archive2", text("e", True), optional=True)), ())
        rest = (rest, ("set", "archive2", "e", NULL), ("when", "archive2", ("false",)))
        self.check(compiled(FREE_PAIR, target, (set_c(A), *rest)), "archive3")
        target = ((table("archive2", text("e", True)), table("archive3", text("c"))), ())
        rest = (("set", "archive2", "e", NULL), ("set", "archive3", "c", A))
        self.check(compiled(FREE_PAIR, target, rest), "archive")
        target = ((table("archive", text("e", True)), table("archive3", text("c"))), ())
        rest = (("set", "archive", "e", NULL), ("set", "archive3", "c", A))
        self.check(compiled(FREE_PAIR, target, rest), "archive2")

    def test_an_archived_migration_is_its_own_archived_migration(self):
        archived = archive(compiled(FREE_PAIR, LETTERS, (set_c(A),)))
        self.assertEqual(archive(archived), archived)

    def test_an_archive_of_an_archive(self):
        first = archive(compiled(FREE_PAIR, LETTERS, (set_c(A),)))
        middle = first[1]
        second = compiled(middle, TAGS, (tags(equal(column("archive.value"), ("cell", ("p1",)))),))
        archived = self.check(second)
        self.assertEqual(archived[1][0][-1][0], "archive")

    def test_eight_tables_and_a_further_one(self):
        tables = tuple(table(f"t{number}", values("s", 1)) for number in range(7))
        target = ((*tables, table("u", text("c"))), ())
        sets = tuple(("set", f"t{number}", "s", W0) for number in range(7))
        archived = self.check(compiled(FREE_PAIR, target, (*sets, set_c(A))))
        self.assertEqual(len(archived[1][0]), 9)

    def test_many_values(self):
        many = ((table("t", values("s", 300)),), ())
        single = ((table("u", values("s", 1)),), ())
        archived = self.check(compiled(many, single, (("set", "u", "s", W0),)), expected_size=(0, 300))
        self.assertEqual(archived[3][299], ((("w0",),), (("p300",),)))

    def test_random_migrations(self):
        rng = random.Random(1)
        seen = set()
        for source, target, own in itertools.product((ONE, PAIR, FREE_PAIR, TAGGED, SPLIT),
                                                     (ONE, TAGS, LETTERS, FREE_PAIR, SPLIT), ((), ("k",), ("c1",))):
            constants = tuple(sorted({*own, *identity(source)[2], *identity(target)[2]}))
            records = cases(source, constants)
            results = [None] * len(records)
            for _ in range(40):
                new = random_valid_results(rng, target, constants, records)
                results = [given or other for given, other in zip(results, new)]
            if None in results:
                continue
            migration = from_results(source, target, tuple(results), own=own)
            error = raised_text(archive, migration)
            if error is None:
                self.check(migration)
                seen.add(archive_size(migration))
            else:
                self.assertIn("TooManyCases", error)
        self.assertGreater(len(seen), 5)

    def test_databases_are_led_back(self):
        archived = archive(compiled(FREE_PAIR, LETTERS, (set_c(A),)))
        back = recover_record(archived)[0]
        database = (("k1", (("p", None),)), ("k2", (("p", "p"),)), ("k3", (("p", "q"),)), ("k4", (("", "v1"),)))
        self.assertEqual(migrated(archived, database), (
            ("k1", (("p",), (("p1",), "p"))), ("k2", (("p",), (("p2",), "p"))), ("k3", (("p",), (("p1",), "q"))),
            ("k4", (("",), (("p1",), "v1")))))
        self.assertEqual(migrated(back, migrated(archived, database)), database)

    def test_the_rows_of_an_archive(self):
        migration = compiled(THREE, TAGS, (tags(equal(A, B)),))
        extended = archive(migration)[1]
        self.assertEqual(capacity(extended), multiplied((2,), (0, 0, 0, 1)))
        self.assertTrue(is_valid(extended, ((("w0",),), ("p", "q", "p"))))


class Errors(unittest.TestCase):
    def test_invalid_results_and_dropped_records(self):
        for migration, expected in (
            (compiled(FREE_PAIR, LETTERS, (set_c(B),)), "InvalidResults(place=0)"),
            (compiled(ONE, NO_X, (set_c(A),)), "InvalidResults(place=0)"),
            (compiled(FREE_PAIR, LETTERS, (("drop", equal(A, B)), set_c(A))), "DropsRecords(place=1)"),
            (compiled(ONE, LETTERS, (("drop", ("true",)), set_c(A))), "DropsRecords(place=0)"),
            (compiled(FREE_PAIR, LETTERS, (("drop", equal(B, NULL)), set_c(choose((equal(A, B), NULL), otherwise=A)))),
             "InvalidResults(place=1)"),
        ):
            self.assertEqual(raised_text(archive, migration), expected)

    def test_they_come_before_too_many_cases(self):
        source, target = self.either(60), ((table("u", values("s", 1)),), ())
        sets = ("set", "u", "s", W0)
        self.assertTrue(raised_text(archive, compiled(source, target, (sets,))).startswith("TooManyCases"))
        dropping = compiled(source, target, (("drop", equal(column("t.s"), ("cell", ("w40",)))), sets))
        self.assertEqual(raised_text(archive, dropping), "DropsRecords(place=41)")
        nulls = ("set", "u", "s", choose((equal(column("t.s"), ("cell", ("w50",))), NULL), otherwise=W0))
        both = compiled(source, target, (nulls, ("drop", equal(column("t.s"), ("cell", ("w40",))))))
        self.assertEqual(raised_text(archive, both), "InvalidResults(place=51)")

    def either(self, many, *more):
        """A value or a text, but not both: `many` records without a text, and n with one."""
        return ((table("t", values("s", many), optional=True), table("p", text("b"), optional=True), *more),
                (("or", (("not", ("exists", "t")), ("not", ("exists", "p")))),))

    def counts_of(self, schema):
        return [many_candidates(schema, many) for many in range(300)]

    def test_the_source_for_some_number_of_spare_texts(self):
        # So many values need as many rows without a hidden text, that is half as many texts with two values.
        source, target = self.either(60), ((table("u", values("s", 1)),), ())
        migration = compiled(source, target, (("set", "u", "s", W0),))
        self.assertEqual(archive_size(migration), (1, 2))
        counted = self.counts_of(source)
        first = next(number for number in counted if number > 300)
        self.assertEqual((counted[0], counted.index(first)), (122, 3))
        self.assertEqual(raised_text(archive, migration), f"TooManyCases(count={first})")

    def test_the_target_for_some_number_of_spare_texts(self):
        source = self.either(40)
        target = ((table("u", text("c", True), text("d", True), text("e", True)),), ())
        sets = tuple(("set", "u", name, NULL) for name in "cde")
        migration = compiled(source, target, sets)
        counted, own = self.counts_of(target), self.counts_of(source)
        first = next(number for number in counted if number > 300)
        self.assertLess(own[counted.index(first)], 301)
        self.assertEqual(raised_text(archive, migration), f"TooManyCases(count={first})")

    def test_the_source_before_the_target_for_the_same_number(self):
        source = self.either(80)
        own = self.counts_of(source)
        self.assertEqual([number > 300 for number in own[:4]], [False, False, True, True])
        for nullable, limit in (("", 3), ("cdef", 2)):
            target = ((table("u", *[text(name, name in nullable) for name in "cdef"]),), ())
            counted = self.counts_of(target)
            self.assertEqual([number > 300 for number in counted[:4]], [number >= limit for number in range(4)])
            self.assertNotEqual(own[2], counted[2])
            migration = compiled(source, target, tuple(("set", "u", name, X) for name in "cdef"))
            self.assertEqual((archive_size(migration), migration[2]), ((1, 2), ("x",)))
            self.assertEqual(raised_text(archive, migration), f"TooManyCases(count={own[2]})")

    def test_the_extended_target(self):
        source = ((table("t", *[text(name) for name in "abcdef"]),), ())
        migration = compiled(source, LETTERS, (set_c(A),))
        self.assertEqual((archive_size(migration), spare_for(migration)), ((5, 1), 0))
        self.assertEqual(self.check_extended(migration), None)
        source = ((table("t", *[text(name) for name in "abcde"], values("s", 2)),), ())
        migration = compiled(source, LETTERS, (set_c(A),))
        self.assertEqual(archive_size(migration), (4, 2))
        self.check_extended(migration)
        flagged = ((table("t", text("a"), text("b"), text("c"), text("d"), values("s", 9)),), ())
        target = ((table("u", text("c"), text("d"), values("s", 3)),), ())
        migration = compiled(flagged, target, (set_c(A), set_d(B), tags(("false",))))
        self.assertEqual(self.check_extended(migration), 15 * 3 * 9)

    def check_extended(self, migration):
        """Whether the extended target has too many candidates is told by its count; the number, or None."""
        columns, many = archive_size(migration)
        kinds = [values("value", many)] if many > 1 else []
        archives = table("archive", *kinds, *[text(f"text{number + 1}") for number in range(columns)])
        extended = ((*migration[1][0], archives), migration[1][1])
        count = many_candidates(extended, len(migration[2]) + spare_for(migration))
        self.assertEqual(raised_text(archive, migration), f"TooManyCases(count={count})" if count > 300 else None)
        return count if count > 300 else None

    def test_the_extended_target_for_the_constants_with_the_spare_texts(self):
        found = []
        for many in range(1, 12):
            source = self.either(many)
            target = ((table("u", text("c"), values("s", 2)),), ())
            migration = compiled(source, target, (set_c(X), tags(("false",))))
            self.assertEqual((archive_size(migration), migration[2]), ((1, 2), ("x",)))
            self.assertEqual(spare_for(migration), many - 1)
            found.append(self.check_extended(migration))
        self.assertEqual([count is None for count in found], [True] * found.count(None) + [False] * (
            len(found) - found.count(None)))
        self.assertTrue(0 < found.count(None) < len(found))

    def test_no_errors_for_migrations_that_lose_nothing(self):
        big = ((table("t", values("s", 300)),), ())
        self.assertEqual(archive(identity(big)), identity(big))
        wide = ((table("t", *[text(name) for name in "abcdef"]),), ())
        self.assertEqual(archive(identity(wide)), identity(wide))


class GroupsOfTheArchive(unittest.TestCase):
    def test_each_group_begins_with_the_first_row(self):
        migration = compiled(FLAGS, ((table("u", text("c"), values("s", 2)),), ()), (set_c(A), tags(equal(S, W0))))
        archived = archive(migration)
        for group in groups(migration):
            self.assertEqual([examples(archived)[number][1][-1] for number in group],
                             [((f"p{place + 1}",),) for place in range(len(group))])

    def test_hidden_texts_in_the_place_of_the_sample_texts(self):
        # The result has the second text, so the first one is hidden; the sample texts for the result begin with v1.
        migration = compiled(THREE, LETTERS, (set_c(column("t.c")),))
        archived = archive(migration)
        self.assertEqual(archived[2], ())
        rows = [(case[0], given) for case, given in examples(archived)]
        self.assertEqual(rows[1], (("v1", "v1", "v2"), (("v2",), ("v2", "v1"))))
        self.assertEqual(rows[4], (("v1", "v2", "v3"), (("v3",), ("v1", "v2"))))
        self.assertEqual(result(archived, (("q", "r", "p"),)), (("p",), ("q", "r")))
        self.assertEqual(renamed(rows[4][1], (("v1", "q"), ("v2", "r"), ("v3", "p"))), (("p",), ("q", "r")))


if __name__ == "__main__":
    unittest.main()
