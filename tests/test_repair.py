"""Repair and equivalence [220] to [224]."""

import itertools
import random
import unittest

from migraproof.analysis import analyze, inverse, is_lossless
from migraproof.capacity import capacity, counts, excess
from migraproof.cases import cases
from migraproof.composing import followed_by
from migraproof.counting import many_candidates
from migraproof.migrations import compiled, from_results, identity, reduced, result
from migraproof.records import canonical
from migraproof.repair import equivalence, kept, repair, spare_needed
from migraproof.schemas import constants_of, is_valid
from samples import (FREE_PAIR, IMPOSSIBLE, LETTERS, NULL, ONE, OPTIONAL, PAIR, SPLIT, TAGGED, TWO, X, choose, column,
                     equal, random_migration, set_c, set_d, table, text, texts_in, unequal, valid_over, values)
from support import raised_text

A, B = column("t.a"), column("t.b")
C, D = column("u.c"), column("u.d")
Y = ("cell", "y")
W0 = ("cell", ("w0",))
UNLIKE = (TWO[0], (unequal(C, D),))
NULLS = ((table("u", text("c", True), text("d", True)),), ())
TAGS = ((table("t", values("s", 3)),), ())
FLAGS = ((table("t", text("a"), values("s", 2)),), ())
NO_X = (ONE[0], (unequal(A, X),))
WIDE = ((table("t", *[text(name) for name in "abcd"]),), ())
SCHEMAS = (ONE, TAGS, FLAGS, PAIR, FREE_PAIR, TWO, UNLIKE, SPLIT, TAGGED)


def constants_for(draft, many):
    """The constants of the draft with the first spare texts."""
    spare = [f"c{number}" for number in range(1, 400) if f"c{number}" not in draft[2]]
    return tuple(sorted({*draft[2], *spare[:many]}))


def free(record, constants):
    return [name for name in texts_in(record) if name not in constants]


def keeps_all(target, constants, case, given):
    """Whether the result of a case could be one of a migration that loses nothing."""
    return given is not None and is_valid(target, given) and set(free(case, constants)) <= set(free(given, constants))


def best_agreement(draft, constants):
    """The greatest number of cases on which a lossless migration for these constants agrees with the draft, from all
    ways to give the cases different cases of the target with as many free texts; None if there is none."""
    source, target = draft[:2]
    own_cases, forms = cases(source, constants), cases(target, constants)
    wanted = []
    for case in own_cases:
        given = result(draft, case)
        wanted.append(canonical(given, constants) if keeps_all(target, constants, case, given) else None)

    def best(at, used):
        if at == len(own_cases):
            return 0
        found = None
        many = len(free(own_cases[at], constants))
        for form in forms:
            if form not in used and len(free(form, constants)) == many:
                rest = best(at + 1, {*used, form})
                if rest is not None:
                    found = max(found or 0, rest + (form == wanted[at]))
        return found

    return best(0, set())


class Checked(unittest.TestCase):
    def check(self, draft):
        """What [221] to [223] say of any draft; returns the repaired migration."""
        source, target = draft[:2]
        many, keeps, repaired = spare_needed(draft), kept(draft), repair(draft)
        self.assertEqual(many is None, excess(source, target) is not None)
        if many is None:
            self.assertIsNone(keeps)
            self.assertIsNone(repaired)
            return None
        constants = constants_for(draft, many)
        own_cases = cases(source, constants)
        self.assertEqual(keeps, self.kept_by_the_words(draft, constants))
        self.assertEqual(repaired[:2], (source, target))
        self.assertEqual(reduced(repaired), repaired)
        self.assertTrue(is_lossless(repaired))
        self.assertEqual([result(repaired, case) for case in own_cases], self.given_by_the_words(draft, constants))
        self.assertLessEqual(set(repaired[2]), set(constants))
        if is_lossless(draft):
            self.assertEqual((many, repaired), (0, draft))
            self.assertTrue(all(keeps))
        self.assertEqual(repair(repaired), repaired)
        if capacity(source) == capacity(target):
            self.assertIsNone(analyze(repaired)[2])
            self.assertEqual(followed_by(repaired, inverse(repaired)), identity(source))
        return repaired

    def kept_by_the_words(self, draft, constants):
        earlier, found = [], []
        for case in cases(draft[0], constants):
            given = result(draft, case)
            good = keeps_all(draft[1], constants, case, given) and canonical(given, constants) not in earlier
            if good:
                earlier.append(canonical(given, constants))
            found.append(good)
        return tuple(found)

    def given_by_the_words(self, draft, constants):
        own_cases = cases(draft[0], constants)
        keeps = self.kept_by_the_words(draft, constants)
        taken = [canonical(result(draft, case), constants) for case, good in zip(own_cases, keeps) if good]
        found = []
        for case, good in zip(own_cases, keeps):
            if good:
                found.append(result(draft, case))
            else:
                new = next(form for form in cases(draft[1], constants) if form not in taken
                           and len(free(form, constants)) == len(free(case, constants)))
                taken.append(new)
                found.append(new)
        return found


class RandomDrafts(Checked):
    def test_what_the_document_says(self):
        rng = random.Random(1)
        found = []
        for source, target, own in itertools.product(SCHEMAS, SCHEMAS, ((), ("k",), ("c1", "v1"))):
            draft = random_migration(rng, source, target, own, rng.random() < 0.6)
            found.append(self.check(draft) is None)
        self.assertGreater(min(found.count(True), found.count(False)), 40)

    def test_no_migration_agrees_with_the_draft_more_often(self):
        rng = random.Random(2)
        seen = set()
        for source, target in itertools.product((ONE, TAGS, FLAGS, PAIR, UNLIKE),
                                                (PAIR, FREE_PAIR, TWO, UNLIKE, NULLS)):
            for own in ((), ("k",)):
                draft = random_migration(rng, source, target, own, rng.random() < 0.7)
                many = spare_needed(draft)
                if many is None:
                    self.assertIsNone(best_agreement(draft, draft[2]))
                    continue
                constants = constants_for(draft, many)
                if len(cases(source, constants)) > 8 or len(cases(target, constants)) > 14:
                    continue
                best = best_agreement(draft, constants)
                agreeing = [result(repair(draft), case) == result(draft, case) for case in cases(source, constants)]
                self.assertEqual(sum(agreeing), best)
                for fewer in range(many):
                    self.assertIsNone(best_agreement(draft, constants_for(draft, fewer)))
                seen.add(many)
        self.assertGreater(len(seen), 1)


class SpareNeeded(Checked):
    def test_none_needed(self):
        for draft in (identity(ONE), compiled(ONE, TWO, (set_c(A), set_d(A))), compiled(ONE, TWO, (set_c(X), set_d(X))),
                      from_results(ONE, TWO, (None,))):
            self.assertEqual(spare_needed(draft), 0)
            self.check(draft)

    def test_one_and_more(self):
        # Three values do not fit among the pairs of texts without a constant, as they have no free text.
        for many in (1, 2, 3, 4, 5, 9, 10, 11):
            source = ((table("t", values("s", many)),), ())
            draft = from_results(source, LETTERS, (None,) * many)
            self.assertEqual(spare_needed(draft), many)
            repaired = self.check(draft)
            self.assertEqual(repaired[2], tuple(sorted(f"c{number + 1}" for number in range(many))))
            self.assertEqual([given[0] for given in repaired[3]], [(name,) for name in repaired[2]])
            # n^2 pairs take so many values from the least n on that is not less than the root.
            needed = spare_needed(from_results(source, TWO, (None,) * many))
            self.assertEqual(needed, next(n for n in range(9) if n * n >= many))

    def test_null_counts_as_well(self):
        for many, expected in ((1, 0), (2, 1), (4, 1), (5, 2), (9, 2), (10, 3)):
            source = ((table("t", values("s", many)),), ())
            self.assertEqual(spare_needed(from_results(source, NULLS, (None,) * many)), expected)

    def test_the_constants_of_the_draft_are_used_first(self):
        draft = compiled(TAGS, LETTERS, (set_c(choose((equal(column("t.s"), W0), X), otherwise=Y)),))
        self.assertEqual((draft[2], spare_needed(draft)), (("x", "y"), 1))
        self.assertEqual(kept(draft), (True, True, False))
        self.assertEqual(self.check(draft), (TAGS, LETTERS, ("c1", "x", "y"), ((("x",),), (("y",),), (("c1",),))))

    def test_spare_texts_that_are_constants(self):
        draft = compiled(TAGS, LETTERS, (set_c(("cell", "c1")),))
        self.assertEqual((draft[2], spare_needed(draft)), (("c1",), 2))
        self.assertEqual(self.check(draft), (TAGS, LETTERS, ("c1", "c2", "c3"), ((("c1",),), (("c2",),), (("c3",),))))
        draft = compiled(TAGS, LETTERS, (set_c(choose((equal(column("t.s"), W0), ("cell", "c2")),
                                                      otherwise=("cell", "c1"))),))
        self.assertEqual((draft[2], spare_needed(draft)), (("c1", "c2"), 1))
        self.assertEqual(self.check(draft)[2:], (("c1", "c2", "c3"), ((("c2",),), (("c1",),), (("c3",),))))
        draft = compiled(TAGS, LETTERS, (set_c(choose((equal(column("t.s"), W0), ("cell", "c2")), otherwise=NULL)),))
        self.assertEqual((draft[2], spare_needed(draft)), (("c2",), 2))
        self.assertEqual(self.check(draft)[2:], (("c1", "c2", "c3"), ((("c2",),), (("c1",),), (("c3",),))))

    def test_both_sides_grow_with_each_spare_text(self):
        # For 0, 1 and 2 constants the counts are (0, 2), (2, 2), (4, 2) and (0, 1, 1), (1, 3, 1), (4, 5, 1).
        draft = from_results(FLAGS, TWO, (None, None))
        self.assertEqual([counts(FLAGS, constants) for constants in ((), ("x",), ("x", "y"))], [(0, 2), (2, 2), (4, 2)])
        self.assertEqual([counts(TWO, constants) for constants in ((), ("x",), ("x", "y"))],
                         [(0, 1, 1), (1, 3, 1), (4, 5, 1)])
        self.assertEqual(spare_needed(draft), 2)
        self.check(draft)

    def test_none_if_the_source_has_an_excess(self):
        for source, target in ((FREE_PAIR, TWO), (FREE_PAIR, UNLIKE), (TWO, LETTERS), (FLAGS, ONE), (ONE, IMPOSSIBLE),
                               (TAGS, ((table("t", values("s", 2)),), ())), (TWO, UNLIKE), (ONE, NO_X)):
            self.assertIsNotNone(excess(source, target))
            draft = from_results(source, target, (None,) * len(cases(source, tuple(sorted(
                {*constants_of(source), *constants_of(target)})))))
            self.assertIsNone(spare_needed(draft))
            self.check(draft)

    def test_schemas_without_valid_records(self):
        draft = from_results(IMPOSSIBLE, ONE, ())
        self.assertEqual((spare_needed(draft), kept(draft), repair(draft)), (0, (), draft))
        draft = from_results(IMPOSSIBLE, IMPOSSIBLE, ())
        self.assertEqual((spare_needed(draft), kept(draft), repair(draft)), (0, (), draft))
        draft = compiled(ONE, IMPOSSIBLE, (("set", "t", "a", A),))
        self.assertEqual((spare_needed(draft), kept(draft), repair(draft)), (None, None, None))


class Kept(Checked):
    def test_results_that_are_dropped(self):
        draft = from_results(FREE_PAIR, FREE_PAIR, ((("v1", None),), None, (("v1", "v2"),)))
        self.assertEqual(kept(draft), (True, False, True))
        self.assertEqual(self.check(draft), identity(FREE_PAIR))

    def test_results_that_are_not_valid(self):
        draft = compiled(PAIR, TWO, (set_c(A), set_d(B)))
        self.assertEqual(kept(draft), (False, True))
        self.assertEqual(self.check(draft)[3], ((("v1", "v1"),), (("v1", "v2"),)))
        to_no_x = compiled(NO_X, NO_X, (("set", "t", "a", choose((equal(A, Y), X), otherwise=A)),))
        self.assertEqual((to_no_x[2], kept(to_no_x)), (("x", "y"), (False, True)))
        self.assertEqual(self.check(to_no_x), identity(NO_X))

    def test_results_that_lack_a_free_text(self):
        shown = choose((equal(C, D), NULL), otherwise=C)
        draft = compiled(TWO, FREE_PAIR, (("set", "t", "a", C), ("set", "t", "b", shown)))
        self.assertEqual(draft[3], ((("v1", None),), (("v1", "v1"),)))
        self.assertEqual(kept(draft), (True, False))
        self.assertEqual(self.check(draft)[3], ((("v1", None),), (("v1", "v2"),)))
        constant = compiled(ONE, TWO, (set_c(X), set_d(choose((equal(A, X), Y), otherwise=X))))
        self.assertEqual((constant[2], constant[3]), (("x", "y"), ((("x", "y"),), (("x", "x"),), (("x", "x"),))))
        self.assertEqual(kept(constant), (True, True, False))
        self.check(constant)

    def test_results_that_are_similar_to_an_earlier_one_that_was_kept(self):
        draft = compiled(FLAGS, FREE_PAIR, (("set", "t", "a", A), ("set", "t", "b", A)))
        self.assertEqual(kept(draft), (True, False))
        self.assertEqual(self.check(draft)[3], ((("v1", "v1"),), (("v1", None),)))

    def test_a_result_that_is_similar_only_to_an_earlier_one_that_was_not_kept(self):
        # The result of the first case lacks its free text, so that of the second case can be kept.
        draft = from_results(((table("t", values("s", 2), text("a")),), ()), NULLS,
                             (((None, None),), (("v1", None),)))
        self.assertEqual(kept(draft), (False, True))
        source = ((table("t", text("a", True)),), ())
        draft = from_results(source, NULLS, (((None, "k"),), ((None, "k"),), (("k", None),)), own=("k",))
        self.assertEqual(kept(draft), (True, False, False))
        draft = from_results(source, NULLS, (((("k", "k"),)), None, (("k", "k"),)), own=("k",))
        self.assertEqual(kept(draft), (True, False, False))
        draft = from_results(source, NULLS, (None, (("k", "k"),), (("v1", "k"),)), own=("k",))
        self.assertEqual(kept(draft), (False, True, True))
        self.assertEqual(self.check(draft)[3], (((None, None),), (("k", "k"),), (("v1", "k"),)))

    def test_each_other_case_gets_the_first_case_with_as_many_free_texts(self):
        three = ((table("t", values("s", 2), text("a")),), ())
        target = ((table("p", text("c", True), values("s", 2, True)),), ())
        draft = from_results(three, target, ((("v1", ("w0",)),), None))
        self.assertEqual(kept(draft), (True, False))
        self.assertEqual(self.check(draft)[3], ((("v1", ("w0",)),), (("v1", None),)))
        draft = from_results(three, target, (None, (("v1", None),)))
        self.assertEqual(self.check(draft)[3], ((("v1", ("w0",)),), (("v1", None),)))
        draft = from_results(three, target, (None, None))
        self.assertEqual(self.check(draft)[3], ((("v1", None),), (("v1", ("w0",)),)))

    def test_a_kept_result_may_have_its_texts_in_another_order(self):
        draft = from_results(TWO, TWO, (None, (("v2", "v1"),)))
        self.assertEqual(self.check(draft), (TWO, TWO, (), ((("v1", "v1"),), (("v2", "v1"),))))

    def test_a_draft_that_drops_everything(self):
        for schema in (ONE, FREE_PAIR, TAGGED, OPTIONAL, SPLIT):
            draft = from_results(schema, schema, (None,) * len(cases(schema, constants_of(schema))))
            self.assertEqual(self.check(draft), identity(schema))
            self.assertEqual(set(kept(draft)), {False})

    def test_drafts_that_are_lossless(self):
        turned = compiled(TWO, TWO, (set_c(D), set_d(C)))
        swapped = compiled(ONE, LETTERS, (set_c(choose((equal(A, X), Y), (equal(A, Y), X), otherwise=A)),))
        for draft in (turned, swapped, identity(TAGGED), compiled(NO_X, ONE, (("set", "t", "a", A),)),
                      compiled(ONE, TWO, (set_c(A), set_d(X))), compiled(FLAGS, NULLS, (
                          set_c(A), set_d(choose((equal(column("t.s"), W0), A), otherwise=NULL))))):
            self.assertEqual(self.check(draft), draft)

    def test_drafts_with_constants(self):
        draft = compiled(ONE, ONE, (("set", "t", "a", choose((equal(A, X), Y), otherwise=A)),))
        self.assertEqual((draft[2], kept(draft)), (("x", "y"), (True, False, True)))
        swapped = choose((equal(A, X), Y), (equal(A, Y), X), otherwise=A)
        self.assertEqual(self.check(draft), compiled(ONE, ONE, (("set", "t", "a", swapped),)))
        draft = compiled(ONE, ONE, (("drop", equal(A, X)), ("set", "t", "a", A)))
        self.assertEqual(self.check(draft), identity(ONE))


class TooMany(unittest.TestCase):
    def fillers(self, number):
        """A schema of one text column and so many values."""
        return ((table("t", text("a"), values("s", number)),), ())

    def test_the_source_before_the_target_for_each_number(self):
        # The source has (1 + e) * 60 candidates, and 60 e + 60 free texts.
        source = self.fillers(60)
        target = ((table("u", text("c"), text("d")),), ())
        draft = from_results(source, target, (None,) * 60)
        self.assertEqual([many_candidates(source, many) for many in (4, 5)], [300, 360])
        for call in (spare_needed, kept, repair):
            self.assertEqual(raised_text(call, draft), "TooManyCases(count=360)")

    def test_the_target_only(self):
        source = ((table("t", values("s", 290)),), ())
        target = ((table("u", text("c"), text("d"), text("e")),), ())
        draft = from_results(source, target, (None,) * 290)
        counted = [many_candidates(target, many) for many in range(8)]
        first = next(number for number in counted if number > 300)
        self.assertLess(counted.index(first) ** 3, 290)
        for call in (spare_needed, kept, repair):
            self.assertEqual(raised_text(call, draft), f"TooManyCases(count={first})")

    def test_both_at_the_same_number(self):
        source = ((table("t", values("s", 100), text("a", True)), ), ())
        target = ((table("u", text("c"), text("d"), text("e"), text("f")),), ())
        draft = from_results(source, target, (None,) * 200)
        counted = [(many_candidates(source, many), many_candidates(target, many)) for many in range(4)]
        self.assertEqual(counted, [(200, 15), (300, 52), (400, 151), (500, 372)])
        self.assertEqual(raised_text(spare_needed, draft), "TooManyCases(count=400)")
        source = ((table("t", values("s", 150)), table("u", text("b"), optional=True)), ())
        draft = from_results(source, target, (None,) * 300)
        self.assertEqual(raised_text(repair, draft), "TooManyCases(count=450)")

    def test_the_last_number_is_enough(self):
        source = ((table("t", values("s", 64)),), ())
        target = ((table("u", text("c"), text("d"), text("e")),), ())
        draft = from_results(source, target, (None,) * 64)
        self.assertEqual(spare_needed(draft), 4)
        self.assertTrue(is_lossless(repair(draft)))
        self.assertEqual(repair(draft)[2], ("c1", "c2", "c3", "c4"))

    def test_none_before_too_many_cases(self):
        source = ((table("t", values("s", 200), text("a")),), ())
        draft = from_results(source, ONE, (None,) * 200)
        self.assertEqual((spare_needed(draft), kept(draft), repair(draft)), (None, None, None))


class Equivalence(unittest.TestCase):
    # The capacity is that of FREE_PAIR, but there are many more candidates.
    WIDE = ((table("p", text("c")), table("q", text("d"), optional=True), table("r", values("s", 3), optional=True)),
            (("not", ("exists", "r")),))

    def test_different_capacities(self):
        for source, target in ((ONE, TWO), (TWO, ONE), (PAIR, FREE_PAIR), (IMPOSSIBLE, ONE), (ONE, NO_X), (TAGS, ONE)):
            self.assertIsNone(equivalence(source, target))

    def check(self, source, target):
        there, back = equivalence(source, target)
        self.assertEqual((there[:2], back[:2]), ((source, target), (target, source)))
        self.assertEqual(followed_by(there, back), identity(source))
        self.assertEqual(followed_by(back, there), identity(target))
        constants = tuple(sorted({*constants_of(source), *constants_of(target)}))
        draft = from_results(source, target, (None,) * len(cases(source, constants)))
        self.assertEqual((there, back), (repair(draft), inverse(repair(draft))))
        self.assertEqual((reduced(there), reduced(back)), (there, back))
        pool = tuple(sorted({*constants, "p", "q"}))
        self.assertEqual({result(there, record) for record in valid_over(source, pool)}, set(valid_over(target, pool)))

    def test_the_same_schema(self):
        for schema in (ONE, PAIR, FREE_PAIR, OPTIONAL, TAGGED, SPLIT, TAGS):
            self.check(schema, schema)
            self.assertEqual(equivalence(schema, schema), (identity(schema), identity(schema)))

    def test_other_schemas_of_the_same_capacity(self):
        for source, target in itertools.permutations((PAIR, TWO), 2):
            self.check(source, target)
        either = ((table("t", text("a"), optional=True), table("u", values("s", 1), optional=True)),
                  (("or", (("not", ("exists", "t")), ("not", ("exists", "u")))),))
        self.check(either, ((table("t", text("a", True)),), ()))
        self.check(((table("t", text("a", True)),), ()), either)
        self.check(FLAGS, ((table("p", values("k", 2)), table("q", text("b"))), ()))
        self.check(IMPOSSIBLE, (ONE[0], (("false",),)))

    def test_schemas_with_constants(self):
        # One text less in each of them.
        no_y = (LETTERS[0], (unequal(C, Y),))
        self.check(NO_X, no_y)
        there = equivalence(NO_X, no_y)[0]
        self.assertEqual(there[2:], (("x", "y"), ((("x",),), (("v1",),))))
        self.check(TAGGED, TAGGED)
        only_x = (ONE[0], (equal(A, X),))
        self.check(only_x, ((table("t", values("s", 1)),), ()))
        self.check(((table("t", values("s", 1)),), ()), only_x)

    def wide_or(self, many):
        """A schema of two text columns with so many constants, whose checks are always true."""
        check = ("or", tuple(equal(("cell", f"k{number}"), X) for number in range(many)))
        return (PAIR[0], (("or", (check, ("true",))),))

    def test_the_errors_in_their_order(self):
        # With x there are `many` + 1 constants, and (c + 1) (c + 2) + 1 or so candidates.
        big = [self.wide_or(many) for many in (17, 18, 19)]
        counted = [many_candidates(schema, len(constants_of(schema))) for schema in big]
        self.assertEqual(len(set(counted)), 3)
        self.assertGreater(min(counted), 300)
        for first, second in itertools.permutations(range(3), 2):
            self.assertEqual(raised_text(equivalence, big[first], big[second]), f"TooManyCases(count={counted[first]})")
        self.assertEqual(raised_text(equivalence, ONE, big[0]), f"TooManyCases(count={counted[0]})")
        self.assertEqual(raised_text(equivalence, big[0], ONE), f"TooManyCases(count={counted[0]})")

    def with_constants(self, schema, letter, many):
        """The schema with so many constants of its own, in a further check that is always true."""
        names = [("cell", f"{letter}{number}") for number in range(many)]
        parts = [equal(first, second) for first, second in zip(names, names[1:])]
        return (schema[0], (*schema[1], ("or", (*parts, ("true",)))))

    def test_too_many_cases_for_the_constants_of_both(self):
        nulls = ((table("u", text("c", True), text("d")),), ())
        first, second = self.with_constants(FREE_PAIR, "k", 10), self.with_constants(nulls, "m", 10)
        self.assertEqual(capacity(first), capacity(second))
        self.assertEqual(raised_text(equivalence, first, second), f"TooManyCases(count={many_candidates(first, 20)})")

    def test_too_many_cases_of_the_target_or_the_source_alone(self):
        first, second = self.with_constants(FREE_PAIR, "k", 5), self.with_constants(self.WIDE, "m", 5)
        self.assertEqual(capacity(first), capacity(second))
        self.assertLessEqual(max(many_candidates(first, 10), many_candidates(self.WIDE, 5)), 300)
        expected = f"TooManyCases(count={many_candidates(self.WIDE, 10)})"
        self.assertEqual(raised_text(equivalence, first, second), expected)
        self.assertEqual(raised_text(equivalence, second, first), expected)

    def test_both_have_too_many_cases(self):
        first, second = self.with_constants(self.WIDE, "k", 6), self.with_constants(FREE_PAIR, "m", 12)
        self.assertEqual(len({many_candidates(schema, 18) for schema in (first, second)}), 2)
        self.assertEqual(raised_text(equivalence, first, second), f"TooManyCases(count={many_candidates(first, 18)})")
        self.assertEqual(raised_text(equivalence, second, first), f"TooManyCases(count={many_candidates(second, 18)})")

    def test_different_capacities_before_too_many_cases_for_both(self):
        first, second = self.with_constants(FREE_PAIR, "k", 10), self.with_constants(PAIR, "m", 10)
        self.assertIsNone(equivalence(first, second))


if __name__ == "__main__":
    unittest.main()
