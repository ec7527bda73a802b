"""Chains of records [260], [269]."""

import itertools
import random
import unittest

from migraproof.cases import cases
from migraproof.chains import joining_chain
from migraproof.common import common_part, known_positions
from migraproof.counting import many_candidates
from migraproof.migrations import compiled, from_results, identity, result
from migraproof.records import renamed
from migraproof.schemas import is_valid
from samples import (CHOSEN, FREE_PAIR, LETTERS, NULL, ONE, PAIR, PLAIN, SPLIT, TAGGED, TAGS, TWO, X, choose, column,
                     dropping, equal, random_migration, random_pairs, set_c, set_d, table, text, texts_in, unequal,
                     valid_over, values)
from searches import joined_classes
from support import raised_text

A, B, S = column("t.a"), column("t.b"), column("t.s")
Y = ("cell", "y")
W0 = ("cell", ("w0",))
UNLIKE = (CHOSEN[0], (unequal(A, B),))
WIDE = ((table("t", *[text(name) for name in "abcd"]),), ())


def letter(source, expression):
    return compiled(source, LETTERS, (set_c(expression),))


def copies(source, first, second):
    return compiled(source, TWO, (set_c(first), set_d(second)))


class Chains(unittest.TestCase):
    def check(self, first, second, record, other):
        """The chain, which must be there, is one from the record to the other one."""
        chain = joining_chain(first, second, record, other)
        self.assertIs(type(chain), tuple)
        self.assertEqual((chain[0], chain[-1]), (record, other))
        shown = []
        for member in chain:
            self.assertTrue(member is None or is_valid(first[0], member), member)
            shown.append([None if member is None else result(migration, member) for migration in (first, second)])
        for one, two in itertools.pairwise(shown):
            self.assertTrue(one[0] == two[0] or one[1] == two[1], chain)
        for one, two in itertools.pairwise(chain):
            self.assertNotEqual(one, two)
        return chain

    def check_not_joined(self, first, second, record, other):
        for pair in ((record, other), (other, record)):
            self.assertEqual(joining_chain(first, second, *pair), ())
            self.assertEqual(joining_chain(second, first, *pair), ())

    def check_both_ways(self, first, second, record, other):
        for migrations in ((first, second), (second, first)):
            self.check(*migrations, record, other)
            self.check(*migrations, other, record)


class Neighbors(Chains):
    def test_neighbors_on_either_side(self):
        left, right = letter(PLAIN, A), letter(PLAIN, B)
        self.check_both_ways(left, right, (("p", "q"),), (("p", "r"),))
        self.check_both_ways(left, right, (("p", "q"),), (("r", "q"),))
        self.check_both_ways(left, right, (("p", "q"),), (("r", "s"),))
        self.check_both_ways(left, right, (("p", "q"),), (("q", "p"),))
        self.check_both_ways(left, right, (("p", "p"),), (("q", "q"),))

    def test_equal_records(self):
        left, right = identity(PLAIN), letter(PLAIN, B)
        for record in ((("p", "q"),), (("p", "p"),), (("v1", "v2"),), (("v2", "v1"),), None):
            self.check(left, right, record, record)
        dropped = compiled(PLAIN, TWO, (("drop", ("true",)), set_c(A), set_d(B)))
        self.check(dropped, dropped, (("p", "q"),), (("p", "q"),))

    def test_records_that_are_not_joined(self):
        left, right = copies(PLAIN, A, B), copies(PLAIN, B, A)
        for record, other in (((("p", "q"),), (("q", "p"),)), ((("p", "q"),), (("p", "p"),)),
                              ((("p", "p"),), (("q", "q"),)), ((("p", "q"),), (("p", "r"),)), ((("p", "q"),), None)):
            self.check_not_joined(left, right, record, other)
        both = letter(PLAIN, A)
        self.check_not_joined(both, left, (("p", "q"),), (("q", "q"),))
        self.check_both_ways(both, left, (("p", "q"),), (("p", "p"),))

    def test_the_migrations_may_be_the_same(self):
        both = letter(PLAIN, A)
        self.check_both_ways(both, both, (("p", "q"),), (("p", "p"),))
        self.check_both_ways(both, both, (("p", "v1"),), (("p", "v2"),))
        self.check_not_joined(both, both, (("p", "q"),), (("q", "p"),))


class Nones(Chains):
    LEFT = compiled(PLAIN, TWO, (("drop", equal(A, B)), set_c(A), set_d(B)))
    RIGHT = compiled(PLAIN, TWO, (("drop", unequal(A, B)), set_c(A), set_d(B)))

    def test_none_on_either_side(self):
        self.check_both_ways(self.LEFT, identity(PLAIN), (("p", "p"),), None)
        self.check_both_ways(self.LEFT, identity(PLAIN), (("p", "p"),), (("q", "q"),))
        self.check_not_joined(self.LEFT, identity(PLAIN), (("p", "q"),), None)
        self.check_not_joined(self.LEFT, identity(PLAIN), (("p", "p"),), (("p", "q"),))

    def test_none_on_both_sides(self):
        self.check_both_ways(self.LEFT, self.RIGHT, (("p", "p"),), (("p", "q"),))
        self.check_both_ways(self.LEFT, self.RIGHT, (("p", "q"),), (("q", "p"),))
        for record in ((("p", "p"),), (("p", "q"),)):
            self.check_both_ways(self.LEFT, self.RIGHT, record, None)
        every = compiled(PLAIN, TWO, (("drop", ("true",)), set_c(A), set_d(B)))
        self.check_both_ways(every, every, (("p", "q"),), (("x", "x"),))
        self.assertEqual(joining_chain(every, every, None, None), (None,))
        self.assertEqual(joining_chain(identity(ONE), identity(ONE), None, None), (None,))

    def test_none_through_several_steps(self):
        # Only the records with x are dropped; the others show one of their texts on each side.
        left = compiled(PLAIN, LETTERS, (("drop", ("and", (equal(A, X), equal(B, X)))), set_c(A)))
        right = letter(PLAIN, B)
        for record in ((("p", "q"),), (("p", "p"),), (("x", "q"),), (("x", "x"),), (("v1", "x"),)):
            self.check_both_ways(left, right, record, None)
        chain = self.check(left, right, (("p", "q"),), None)
        self.assertGreater(len(chain), 3)

    def test_none_and_a_record_of_a_part_that_is_not_dropped(self):
        left = dropping(PLAIN, TWO, "x")
        self.check_not_joined(left, identity(PLAIN), (("p", "q"),), None)
        self.check_not_joined(left, identity(PLAIN), (("p", "q"),), (("x", "q"),))
        self.check_both_ways(left, identity(PLAIN), (("x", "q"),), None)
        self.check_both_ways(left, identity(PLAIN), (("x", "q"),), (("x", "x"),))


class Replaced(Chains):
    def test_a_text_that_neither_side_has_or_only_one(self):
        three = ((table("t", text("a"), text("b"), text("c")),), ())
        left, right = letter(three, A), letter(three, A)
        self.check_both_ways(left, right, (("p", "q", "r"),), (("p", "s", "t"),))
        self.check_both_ways(left, right, (("p", "q", "r"),), (("p", "r", "q"),))
        right = copies(three, A, B)
        self.check_both_ways(left, right, (("p", "q", "r"),), (("p", "s", "s"),))

    def test_through_one_further_step(self):
        # Both sides show a, but one of them shows b instead where the tag is w1.
        left = compiled(CHOSEN, LETTERS, (set_c(A),))
        right = letter(CHOSEN, choose((equal(S, W0), A), otherwise=B))
        self.assertEqual(set(known_positions(left, right)), {((), ())})
        self.check_both_ways(left, right, ((("w0",), "p", "q"),), ((("w0",), "r", "q"),))
        self.check_both_ways(left, right, ((("w0",), "p", "p"),), ((("w1",), "r", "r"),))
        chain = self.check(left, right, ((("w0",), "p", "p"),), ((("w0",), "q", "q"),))
        self.assertGreater(len(chain), 3)

    def test_through_several_steps(self):
        # The case with the tag number k is seen together with that of the number k + 1 on one side only.
        many = 7
        source = ((table("t", values("s", many), text("a"), text("b")),), ())
        target = ((table("u", values("s", many), text("c")),), ())

        def paired(shift):
            rules = [(equal(S, ("cell", (f"w{number}",))), ("cell", (f"w{(number + shift) // 2}",)))
                     for number in range(many)]
            last = (equal(S, ("cell", (f"w{many - 1}",))), B)
            return compiled(source, target, (("set", "u", "s", choose(*rules, otherwise=W0)),
                                             set_c(choose(last, otherwise=A) if shift else A)))

        left, right = paired(0), paired(1)
        self.assertEqual(set(known_positions(left, right)), {((), ())})
        for tag, other_tag in itertools.product(("w0", "w3", "w6"), repeat=2):
            self.check_both_ways(left, right, (((tag,), "p", "p"),), (((other_tag,), "q", "q"),))
            self.check_both_ways(left, right, (((tag,), "p", "q"),), (((other_tag,), "q", "p"),))
        chain = self.check(left, right, ((("w0",), "p", "p"),), ((("w0",), "q", "q"),))
        self.assertGreater(len(chain), 2 * many)

    def test_texts_that_stay_known_beside_texts_that_do_not(self):
        three = ((table("t", values("s", 2), text("a"), text("b"), text("c")),), ())
        third = column("t.c")
        left = copies(three, A, B)
        right = copies(three, A, choose((equal(S, W0), B), otherwise=third))
        self.check_both_ways(left, right, ((("w0",), "p", "q", "r"),), ((("w1",), "p", "r", "q"),))
        self.check_both_ways(left, right, ((("w0",), "p", "q", "q"),), ((("w0",), "p", "s", "p"),))
        self.check_not_joined(left, right, ((("w0",), "p", "q", "r"),), ((("w0",), "q", "p", "r"),))


class Moved(Chains):
    CROSSED = compiled(CHOSEN, TWO, (set_c(choose((equal(S, W0), A), otherwise=B)),
                                     set_d(choose((equal(S, W0), B), otherwise=A))))

    def test_known_texts_that_change_their_places(self):
        left, right = copies(CHOSEN, A, B), self.CROSSED
        self.assertIsNone(common_part(left, right)[0])
        self.check_both_ways(left, right, ((("w0",), "p", "q"),), ((("w0",), "q", "p"),))
        self.check_both_ways(left, right, ((("w0",), "p", "q"),), ((("w1",), "p", "q"),))
        self.check_both_ways(left, right, ((("w0",), "p", "q"),), ((("w1",), "q", "p"),))
        self.check_both_ways(left, right, ((("w0",), "p", "p"),), ((("w1",), "p", "p"),))
        self.check_not_joined(left, right, ((("w0",), "p", "q"),), ((("w0",), "p", "r"),))
        self.check_not_joined(left, right, ((("w0",), "p", "p"),), ((("w1",), "q", "q"),))

    def test_known_texts_that_are_found_at_other_places(self):
        left = compiled(CHOSEN, ((table("u", values("s", 2), text("c"), text("d")),), ()),
                        (("set", "u", "s", S), set_c(B), set_d(A)))
        right = self.CROSSED
        self.assertIsNotNone(common_part(left, right)[0])
        self.check_both_ways(left, right, ((("w0",), "p", "q"),), ((("w1",), "q", "p"),))
        self.check_not_joined(left, right, ((("w0",), "p", "q"),), ((("w1",), "p", "q"),))
        self.check_not_joined(left, right, ((("w0",), "p", "q"),), ((("w0",), "q", "p"),))

    def test_evidence_is_joined(self):
        unlike = compiled(UNLIKE, TWO, (set_c(choose((equal(S, W0), A), otherwise=B)),
                                        set_d(choose((equal(S, W0), B), otherwise=A))))
        for left, right in ((copies(CHOSEN, A, B), self.CROSSED), (copies(UNLIKE, B, A), unlike)):
            for first, second in ((left, right), (right, left)):
                self.check_both_ways(first, second, *common_part(first, second)[1])

    def test_three_texts_in_a_circle(self):
        third = column("t.c")
        source = ((table("t", values("s", 2), text("a"), text("b"), text("c")),),
                  (unequal(A, B), unequal(A, third), unequal(B, third)))
        target = ((table("u", text("c"), text("d"), text("e")),), ())
        left = compiled(source, target, (set_c(A), set_d(B), ("set", "u", "e", third)))
        right = compiled(source, target, (set_c(choose((equal(S, W0), A), otherwise=B)),
                                          set_d(choose((equal(S, W0), B), otherwise=third)),
                                          ("set", "u", "e", choose((equal(S, W0), third), otherwise=A))))
        start = ((("w0",), "p", "q", "r"),)
        for texts in itertools.permutations("pqr"):
            is_even = texts in (("p", "q", "r"), ("q", "r", "p"), ("r", "p", "q"))
            for tag in ("w0", "w1"):
                other = (((tag,), *texts),)
                if is_even:
                    self.check_both_ways(left, right, start, other)
                else:
                    self.check_not_joined(left, right, start, other)


class Names(Chains):
    def test_free_texts_that_look_like_sample_texts(self):
        left, right = letter(CHOSEN, A), letter(CHOSEN, choose((equal(S, W0), A), otherwise=B))
        records = [((tag,), first, second) for tag in ("w0", "w1")
                   for first, second in itertools.product(("v1", "v2", "v9", "c1", ""), repeat=2)]
        rng = random.Random(1)
        for record, other in rng.sample(list(itertools.product(records, repeat=2)), 120):
            self.check(left, right, (record,), (other,))

    def test_records_with_constants(self):
        left = letter(PLAIN, choose((equal(A, X), Y), otherwise=A))
        right = copies(PLAIN, B, choose((equal(B, ("cell", "v1")), ("cell", "v2")), otherwise=B))
        classes = joined_classes(left, right, ("v1", "v2", "x", "y", "p", "q", "r"))
        for record, other in itertools.product(list(classes)[1:30:2], list(classes)[::3]):
            if classes[record] == classes[other]:
                self.check(left, right, record, other)
            else:
                self.check_not_joined(left, right, record, other)

    def test_long_and_odd_texts(self):
        left, right = letter(PLAIN, A), letter(PLAIN, B)
        self.check(left, right, (("a b c d e f ", "~" * 12),), (("!#$&'()*+,-", ""),))


class RandomChains(Chains):
    def test_by_a_plain_search(self):
        rng = random.Random(2)
        found = []
        for first, second in random_pairs(random.Random(7), 14):
            constants = tuple(sorted({*first[2], *second[2]}))
            classes = joined_classes(first, second, tuple(sorted({*constants, "v1", "v2", "q", "r", "s"})))
            records = [record for record in classes
                       if record is None or set(texts_in(record)) <= {*constants, "v1", "v2", "q"}]
            for _ in range(8):
                record, other = rng.choice(records), rng.choice(records)
                found.append(classes[record] == classes[other])
                if found[-1]:
                    self.check(first, second, record, other)
                else:
                    self.check_not_joined(first, second, record, other)
            record = rng.choice(records)
            other = rng.choice([each for each in records if classes[each] == classes[record]])
            self.check(first, second, record, other)
        self.assertGreater(min(found.count(True), found.count(False)), 100)

    def test_other_sources(self):
        rng = random.Random(3)
        for source in (SPLIT, TAGGED, FREE_PAIR):
            for _ in range(5):
                first = random_migration(rng, source, LETTERS, (), False)
                second = random_migration(rng, source, TAGS, (), False)
                constants = tuple(sorted({*first[2], *second[2]}))
                classes = joined_classes(first, second, tuple(sorted({*constants, "v1", "v2", "q", "r", "s"})))
                for _ in range(10):
                    record, other = rng.choice(list(classes)), rng.choice(list(classes))
                    if classes[record] == classes[other]:
                        self.check(first, second, record, other)
                    else:
                        self.check_not_joined(first, second, record, other)

    def test_records_of_many_cases(self):
        source = ((table("t", values("s", 5), text("a"), text("b"), text("c")),), ())
        rng = random.Random(4)
        migrations = []
        for _ in range(2):
            results = [(tuple(rng.choice(texts_in(case)) for _ in range(2)),) for case in cases(source, ())]
            migrations.append(from_results(source, TWO, tuple(results)))
        records = valid_over(source, ("p", "q", "v1"))
        for _ in range(60):
            record, other = rng.choice(records), rng.choice(records)
            if joining_chain(*migrations, record, other):
                self.check(*migrations, record, other)
            similar = renamed(record, (("p", "q"), ("q", "v1"), ("v1", "p")))
            self.assertEqual(bool(joining_chain(*migrations, record, other)),
                             bool(joining_chain(*migrations, similar, renamed(other, (("p", "q"), ("q", "v1"),
                                                                                      ("v1", "p"))))))


class Errors(unittest.TestCase):
    OTHER = ((table("t", text("a"), text("b", True), text("c", True), values("s", 4)),), ())
    THIRD = ((table("t", text("a"), text("b"), text("c"), values("s", 5)),), ())

    def test_the_sources_differ(self):
        record = (("p", "q"),)
        for first, second in ((identity(PLAIN), identity(ONE)), (identity(PAIR), identity(FREE_PAIR)),
                              (dropping(WIDE, ONE, "k", "m"), dropping(PLAIN, ONE, "x"))):
            for pair in ((record, record), (None, None), (None, record)):
                self.assertEqual(raised_text(joining_chain, first, second, *pair), "SchemasDiffer()")

    def test_too_many_cases_in_their_order(self):
        for source, left, right in itertools.permutations((WIDE, self.OTHER, self.THIRD)):
            for chosen, first in (((source, left, right), source), ((source, ONE, right), source),
                                  ((source, left, ONE), source), ((ONE, left, right), left), ((ONE, left, ONE), left),
                                  ((ONE, ONE, right), right)):
                migration = dropping(chosen[0], chosen[1], "k")
                other = dropping(chosen[0], chosen[2], "m", "x")
                self.assertEqual(raised_text(joining_chain, migration, other, None, None),
                                 f"TooManyCases(count={many_candidates(first, 3)})")

    def test_too_many_cases_of_the_common_part_do_not_matter(self):
        source = ((table("t", text("a"), values("s", 151)),), ())
        whole, none = identity(source), compiled(source, LETTERS, (set_c(NULL),))
        self.assertEqual(raised_text(common_part, whole, whole), "TooManyCases(count=302)")
        self.assertEqual(joining_chain(whole, whole, (("p", ("w0",)),), (("p", ("w1",)),)), ())
        chain = joining_chain(whole, none, (("p", ("w0",)),), (("q", ("w1",)),))
        self.assertEqual((chain[0], chain[-1]), ((("p", ("w0",)),), (("q", ("w1",)),)))


if __name__ == "__main__":
    unittest.main()
