"""The common part of two migrations [260] to [268]."""

import itertools
import random
import unittest

from migraproof.analysis import compare_migrations
from migraproof.cases import cases
from migraproof.common import common_part, known_positions, parts
from migraproof.counting import many_candidates
from migraproof.migrations import compiled, from_results, identity, reduced, result
from migraproof.records import canonical, renamed
from migraproof.recovery import recover
from migraproof.schemas import check_schema, is_valid
from samples import (CHOSEN, FREE_PAIR, IMPOSSIBLE, LETTERS, MAYBE_TWO, NULL, ONE, PAIR, PLAIN, TAGS, TWO, X, choose,
                     column, dropping, equal, random_pairs, results_of, set_a, set_c, set_d, table, tags, text,
                     texts_in, unequal, valid_over, values)
from searches import joined_classes
from support import raised_text

A, B, S = column("t.a"), column("t.b"), column("t.s")
Y, Z = ("cell", "y"), ("cell", "z")
W0, W1 = ("cell", ("w0",)), ("cell", ("w1",))
WIDE = ((table("t", *[text(name) for name in "abcd"]),), ())
FUNCTIONS = (known_positions, parts, common_part)


def copies(source, first, second):
    """The migration that copies two expressions."""
    return compiled(source, TWO, (set_c(first), set_d(second)))


def constants_of_both(first, second):
    return tuple(sorted({*first[2], *second[2]}))


def free(record, constants):
    return [name for name in texts_in(record) if name not in constants]


def plain_known(first, second):
    """The known positions of each case, from the words of [262], with the states taken as they are."""
    constants = constants_of_both(first, second)
    records = cases(first[0], constants)
    sides = [results_of(migration, records) for migration in (first, second)]
    states = [[given and canonical(given, constants) for given in results] for results in sides]
    texts = [[free(given or (), constants) for given in results] for results in sides]
    known = {(side, state, place) for side in (0, 1) for state, names in zip(states[side], texts[side])
             for place in range(len(names))}
    while True:
        lost = set()
        for side, number in itertools.product((0, 1), range(len(records))):
            other = [name for place, name in enumerate(texts[1 - side][number])
                     if (1 - side, states[1 - side][number], place) in known]
            lost |= {(side, states[side][number], place) for place, name in enumerate(texts[side][number])
                     if name not in other} & known
        if not lost:
            break
        known -= lost
    return tuple(tuple(tuple(place for place in range(len(texts[side][number]))
                             if (side, states[side][number], place) in known) for side in (0, 1))
                 for number in range(len(records)))


class KnownPositions(unittest.TestCase):
    def test_all_of_them(self):
        self.assertEqual(known_positions(identity(PLAIN), identity(PLAIN)), (((0,), (0,)), ((0, 1), (0, 1))))
        self.assertEqual(known_positions(copies(PLAIN, A, B), copies(PLAIN, B, A)), (((0,), (0,)), ((0, 1), (0, 1))))
        self.assertEqual(known_positions(copies(PAIR, A, A), copies(PAIR, A, A)), (((0,), (0,)), ((0,), (0,))))

    def test_positions_that_cease_at_once(self):
        first, second = copies(PLAIN, A, A), copies(PLAIN, B, B)
        # For the second case the texts of the two sides differ.
        self.assertEqual(known_positions(first, second), (((), ()), ((), ())))
        letters = compiled(PLAIN, LETTERS, (set_c(A),))
        self.assertEqual(known_positions(letters, identity(PLAIN)), (((0,), (0,)), ((0,), (0,))))

    def test_positions_that_cease_only_after_others(self):
        # The text of a is seen on both sides, unless the right side shows b instead because of the tag.
        left = compiled(CHOSEN, LETTERS, (set_c(A),))
        right = compiled(CHOSEN, LETTERS, (set_c(choose((equal(S, W0), A), otherwise=B)),))
        self.assertEqual(set(known_positions(left, right)), {((), ())})
        left = compiled(CHOSEN, ((table("u", values("s", 2), text("c")),), ()),
                        (("set", "u", "s", S), set_c(A)))
        self.assertEqual(set(known_positions(left, right)), {((), ())})
        same = compiled(CHOSEN, LETTERS, (set_c(A),))
        self.assertEqual(set(known_positions(left, same)), {((0,), (0,))})

    def test_some_positions_remain(self):
        found = known_positions(copies(PLAIN, A, B), copies(PLAIN, A, A))
        self.assertEqual(found, (((0,), (0,)), ((0,), (0,))))
        found = known_positions(copies(PLAIN, B, A), copies(PLAIN, A, A))
        self.assertEqual(found, (((0,), (0,)), ((1,), (0,))))

    def test_results_that_are_none(self):
        first = compiled(PLAIN, TWO, (("drop", equal(A, B)), set_c(A), set_d(B)))
        self.assertEqual(known_positions(first, identity(PLAIN)), (((), ()), ((0, 1), (0, 1))))
        self.assertEqual(known_positions(identity(PLAIN), first), (((), ()), ((0, 1), (0, 1))))
        other = compiled(PLAIN, TWO, (("drop", unequal(A, B)), set_c(A), set_d(B)))
        self.assertEqual(known_positions(first, other), (((), ()), ((), ())))

    def test_constants_have_no_positions(self):
        first = compiled(PLAIN, LETTERS, (set_c(choose((equal(A, X), Y), otherwise=A)),))
        records = cases(PLAIN, ("x", "y"))
        found = known_positions(first, identity(PLAIN))
        for case, pair in zip(records, found):
            self.assertEqual(pair[0], (0,) if case[0][0] == "v1" else ())
            self.assertEqual(pair[1], (0,) if case[0][0] == "v1" else ())

    def test_by_the_words_of_the_document(self):
        seen = set()
        for first, second in random_pairs(random.Random(1), 25):
            found = known_positions(first, second)
            self.assertEqual(found, plain_known(first, second))
            self.assertEqual(known_positions(second, first), tuple(pair[::-1] for pair in found))
            seen.update(found)
        self.assertGreater(len(seen), 4)

    def test_the_known_texts_are_those_in_every_joined_record(self):
        for first, second in random_pairs(random.Random(2), 6):
            constants = constants_of_both(first, second)
            classes = joined_classes(first, second, tuple(sorted({*constants, "v1", "v2", "v3", "p", "q", "r"})))
            common = {}
            for record, number in classes.items():
                names = set(texts_in(record or ()))
                common[number] = common.get(number, names) & names
            records = cases(first[0], constants)
            for side, migration in enumerate((first, second)):
                for case, pair in zip(records, known_positions(first, second)):
                    if set(texts_in(case)) <= {*constants, "v1", "v2", "v3"}:
                        names = free(result(migration, case) or (), constants)
                        self.assertEqual({names[place] for place in pair[side]},
                                         common[classes[case]] - {*constants})

    def test_a_source_without_valid_records(self):
        nothing = from_results(IMPOSSIBLE, ONE, ())
        self.assertEqual((known_positions(nothing, nothing), parts(nothing, nothing)), ((), ()))


class Parts(unittest.TestCase):
    def test_their_order(self):
        self.assertEqual(parts(identity(PLAIN), identity(PLAIN)), (((0,), False), ((1,), False)))
        self.assertEqual(parts(copies(PLAIN, A, A), identity(PLAIN)), (((0, 1), False),))
        tagged = compiled(CHOSEN, ((table("u", values("s", 2)),), ()), (("set", "u", "s", S),))
        self.assertEqual(parts(tagged, identity(CHOSEN)), (((0, 1), False), ((2, 3), False)))
        equals = compiled(CHOSEN, TAGS, (tags(equal(A, B)),))
        self.assertEqual(parts(equals, identity(CHOSEN)), (((0, 2), False), ((1, 3), False)))
        self.assertEqual(parts(tagged, equals), (((0, 1, 2, 3), False),))

    def test_dropped_parts(self):
        first = compiled(PLAIN, TWO, (("drop", equal(A, B)), set_c(A), set_d(B)))
        self.assertEqual(parts(first, identity(PLAIN)), (((0,), True), ((1,), False)))
        self.assertEqual(parts(identity(PLAIN), first), (((0,), True), ((1,), False)))
        letters = compiled(PLAIN, LETTERS, (("drop", unequal(A, B)), set_c(A)))
        self.assertEqual(parts(letters, identity(PLAIN)), (((0,), False), ((1,), True)))
        self.assertEqual(parts(letters, copies(PLAIN, A, A)), (((0, 1), True),))

    def test_none_on_the_left_and_none_on_the_right_are_different_states(self):
        first = compiled(PLAIN, TWO, (("drop", equal(A, B)), set_c(A), set_d(B)))
        second = compiled(PLAIN, TWO, (("drop", unequal(A, B)), set_c(A), set_d(B)))
        self.assertEqual(parts(first, second), (((0,), True), ((1,), True)))
        self.assertEqual(parts(first, first), (((0,), True), ((1,), False)))
        all_dropped = compiled(PLAIN, TWO, (("drop", ("true",)), set_c(A), set_d(B)))
        self.assertEqual(parts(all_dropped, identity(PLAIN)), (((0, 1), True),))

    def test_states_that_are_equal_on_the_left_and_on_the_right(self):
        # The left state of the first case is the right state of the second one.
        left = compiled(PLAIN, TAGS, (tags(equal(A, B)),))
        right = compiled(PLAIN, TAGS, (tags(unequal(A, B)),))
        self.assertEqual((left[3][0], left[3][1]), (right[3][1], right[3][0]))
        self.assertEqual(parts(left, right), (((0,), False), ((1,), False)))

    def test_by_plain_merging(self):
        seen = set()
        for first, second in random_pairs(random.Random(3), 25):
            constants = constants_of_both(first, second)
            records = cases(first[0], constants)
            states = [[(side, given and canonical(given, constants)) for given in results_of(migration, records)]
                      for side, migration in enumerate((first, second))]
            sets = [{number} for number in range(len(records))]
            for one, other in itertools.combinations(range(len(records)), 2):
                if states[0][one] == states[0][other] or states[1][one] == states[1][other]:
                    merged = sets[one] | sets[other]
                    for number in merged:
                        sets[number] = merged
            found = sorted({tuple(sorted(numbers)) for numbers in sets})
            expected = tuple((numbers, any(states[side][number][1] is None for side in (0, 1) for number in numbers))
                             for numbers in found)
            self.assertEqual(parts(first, second), expected)
            seen.add(len(expected))
        self.assertGreater(len(seen), 3)


class CommonPart(unittest.TestCase):
    def check(self, first, second, pool):
        """The same result exactly for joined records, and what [265] says of the target; the common part, or None."""
        found, shown = common_part(first, second)
        constants = constants_of_both(first, second)
        pool = tuple(sorted({*constants, *pool}))
        classes = joined_classes(first, second, pool)
        if found is None:
            self.check_evidence(first, second, shown)
            return None
        self.assertIsNone(shown)
        self.assertEqual(reduced(found), found)
        self.check_target(first, second, found)
        records = list(classes)[1:]
        given = {None: None, **dict(zip(records, results_of(found, records)))}
        numbers = {}
        for record, number in classes.items():
            self.assertEqual(numbers.setdefault(number, given[record]), given[record])
        self.assertEqual(len(set(numbers.values())), len(numbers))
        self.check_results(first, second, found, constants)
        return found

    def check_target(self, first, second, found):
        known = known_positions(first, second)
        remaining = [numbers for numbers, is_dropped in parts(first, second) if not is_dropped]
        width = max([len(known[number][0]) for numbers in remaining for number in numbers], default=0)
        names = tuple(f"p{number}" for number in range(1, len(remaining) + 1)) or ("p1",)
        columns = (("part", names, False), *[(f"text{number}", "text", True) for number in range(1, width + 1)])
        self.assertEqual(found[:2], (first[0], ((("common", False, columns),), ())))
        self.assertIsNone(check_schema(found[1]))

    def check_results(self, first, second, found, constants):
        """The results of the cases; the first case of a part has its known texts in the order of the positions."""
        records = cases(first[0], constants)
        known, width = known_positions(first, second), len(found[1][0][0][2]) - 1
        place = 0
        for numbers, is_dropped in parts(first, second):
            place += not is_dropped
            for number in numbers:
                given = result(found, records[number])
                if is_dropped:
                    self.assertIsNone(given)
                    continue
                texts = free(result(first, records[number]), constants)
                expected = [texts[at] for at in known[number][0]]
                cells = given[0]
                self.assertEqual(cells[0], (f"p{place}",))
                self.assertEqual(sorted(cells[1:len(expected) + 1]), sorted(expected))
                self.assertEqual(cells[len(expected) + 1:], (None,) * (width - len(expected)))
                if number == numbers[0]:
                    self.assertEqual(list(cells[1:len(expected) + 1]), expected)

    def check_evidence(self, first, second, shown):
        constants = constants_of_both(first, second)
        records = cases(first[0], constants)
        case, other = shown
        self.assertIn(case, records)
        self.assertTrue(is_valid(first[0], other))
        self.assertNotEqual(case, other)
        number = records.index(case)
        texts = free(result(first, case), constants)
        known = [texts[place] for place in known_positions(first, second)[number][0]]
        pairs = dict(zip(texts_in(case), texts_in(other)))
        self.assertEqual(renamed(case, tuple(pairs.items())), other)
        self.assertEqual({name for name in pairs if pairs[name] != name} - set(known), set())
        self.assertEqual(sorted(pairs[name] for name in known), sorted(known))
        pool = tuple(sorted({*constants, *texts_in(case), "p", "q", "r"}))
        classes = joined_classes(first, second, pool)
        self.assertEqual(classes[case], classes[other])

    def test_the_first_example(self):
        found = self.check(copies(CHOSEN, A, B), copies(CHOSEN, A, A), ("p", "q", "r", "s"))
        self.assertEqual(found, compiled(CHOSEN, found[1], (("set", "common", "part", ("cell", ("p1",))),
                                                            ("set", "common", "text1", A))))

    def test_two_equal_migrations(self):
        for migration in (identity(PLAIN), copies(CHOSEN, A, A), dropping(PAIR, LETTERS, "x")):
            found = self.check(migration, migration, ("p", "q", "r"))
            # Whatever can be computed from the migration can be computed from the common part, and the other way.
            if compare_migrations(migration, migration) is None and None not in migration[3]:
                self.assertIsNone(recover(found, migration)[1])
                self.assertIsNone(recover(migration, found)[1])

    def test_without_any_part_that_is_not_dropped(self):
        dropped = compiled(PLAIN, TWO, (("drop", ("true",)), set_c(A), set_d(B)))
        found = self.check(dropped, identity(PLAIN), ("p", "q", "r"))
        target = ((("common", False, (("part", ("p1",), False),)),), ())
        self.assertEqual(found, (PLAIN, target, (), (None, None)))
        first = compiled(PLAIN, TWO, (("drop", equal(A, B)), set_c(A), set_d(B)))
        second = compiled(PLAIN, TWO, (("drop", unequal(A, B)), set_c(A), set_d(B)))
        self.assertEqual(self.check(first, second, ("p", "q", "r")), (PLAIN, target, (), (None, None)))
        nothing = from_results(IMPOSSIBLE, ONE, ())
        self.assertEqual(common_part(nothing, nothing), ((IMPOSSIBLE, target, ("y",), ()), None))

    def test_parts_with_fewer_known_texts_than_others(self):
        left = copies(PLAIN, A, B)
        found = self.check(left, identity(PLAIN), ("p", "q", "r"))
        self.assertEqual(found[3], (((("p1",), "v1", None),), ((("p2",), "v1", "v2"),)))
        self.assertEqual(found[1], ((("common", False, (("part", ("p1", "p2"), False), ("text1", "text", True),
                                                        ("text2", "text", True))),), ()))
        tagged = compiled(PLAIN, MAYBE_TWO, (set_c(choose((equal(A, B), NULL), otherwise=A)), set_d(NULL)))
        self.assertEqual(self.check(tagged, identity(PLAIN), ("p", "q", "r"))[3],
                         (((("p1",), None),), ((("p2",), "v1"),)))

    def test_dropped_parts_are_not_counted(self):
        left = compiled(PLAIN, TWO, (("drop", equal(A, B)), set_c(A), set_d(B)))
        found = self.check(left, identity(PLAIN), ("p", "q", "r"))
        self.assertEqual(found[3], (None, ((("p1",), "v1", "v2"),)))
        self.assertEqual(found[1][0][0][2][0], ("part", ("p1",), False))

    def test_the_order_of_the_first_case(self):
        found = self.check(copies(PLAIN, B, A), identity(PLAIN), ("p", "q", "r"))
        self.assertEqual(found[3], (((("p1",), "v1", None),), ((("p2",), "v2", "v1"),)))

    def test_an_order_that_is_carried_over(self):
        # With another tag the left side shows the texts in the other order, the right one shows no tag.
        left = compiled(CHOSEN, ((table("u", values("s", 2), text("c"), text("d")),), ()),
                        (("set", "u", "s", S), set_c(choose((equal(S, W0), A), otherwise=B)),
                         set_d(choose((equal(S, W0), B), otherwise=A))))
        found = self.check(left, copies(CHOSEN, A, B), ("p", "q", "r"))
        self.assertEqual([given[0] for given in found[3]], [
            (("p1",), "v1", None), (("p2",), "v1", "v2"), (("p1",), "v1", None), (("p2",), "v1", "v2")])
        found = self.check(left, copies(CHOSEN, B, A), ("p", "q", "r"))
        self.assertEqual([given[0][1:] for given in found[3]], [("v1", None), ("v1", "v2")] * 2)

    def test_two_orders_for_one_state(self):
        crossed = compiled(CHOSEN, TWO, (set_c(choose((equal(S, W0), A), otherwise=B)),
                                         set_d(choose((equal(S, W0), B), otherwise=A))))
        found, shown = common_part(copies(CHOSEN, A, B), crossed)
        self.assertIsNone(found)
        self.assertEqual(shown, (((("w0",), "v1", "v2"),), ((("w0",), "v2", "v1"),)))
        self.check_evidence(copies(CHOSEN, A, B), crossed, shown)
        self.check_evidence(crossed, copies(CHOSEN, A, B), common_part(crossed, copies(CHOSEN, A, B))[1])
        unlike = (CHOSEN[0], (unequal(A, B),))
        turned = compiled(unlike, TWO, (set_c(choose((equal(S, W0), A), otherwise=B)),
                                        set_d(choose((equal(S, W0), B), otherwise=A))))
        self.check_evidence(copies(unlike, A, B), turned, common_part(copies(unlike, A, B), turned)[1])

    def test_three_texts_in_a_circle(self):
        source = ((table("t", values("s", 2), text("a"), text("b"), text("c")),),
                  (unequal(A, B), unequal(A, column("t.c")), unequal(B, column("t.c"))))
        target = ((table("u", text("c"), text("d"), text("e")),), ())
        third = column("t.c")
        plain = compiled(source, target, (set_c(A), set_d(B), ("set", "u", "e", third)))
        turned = compiled(source, target, (set_c(choose((equal(S, W0), A), otherwise=B)),
                                           set_d(choose((equal(S, W0), B), otherwise=third)),
                                           ("set", "u", "e", choose((equal(S, W0), third), otherwise=A))))
        found, shown = common_part(plain, turned)
        self.assertIsNone(found)
        self.check_evidence(plain, turned, shown)
        moved = compiled(source, target, (set_c(third), set_d(A), ("set", "u", "e", B)))
        self.check(plain, moved, ("p", "q", "r"))

    def test_evidence_where_other_cases_have_other_orders(self):
        third = column("t.c")
        source = ((table("t", values("s", 3), text("a"), text("b"), text("c")),),
                  (unequal(A, B), unequal(A, third), unequal(B, third)))
        target = ((table("u", values("s", 2), text("c"), text("d"), text("e")),), ())
        rng = random.Random(7)
        many = 0
        for _ in range(40):
            pair = []
            for _ in range(2):
                places = [(rng.choice(("w0", "w1")), rng.sample(range(1, 4), 3)) for _ in range(3)]
                results = tuple(((((tag,), *[case[0][place] for place in order])),)
                                for case, (tag, order) in zip(cases(source, ()), places))
                pair.append(from_results(source, target, results))
            found, shown = common_part(*pair)
            if found is None:
                self.check_evidence(*pair, shown)
                many += 1
            else:
                self.check(*pair, ("v1", "v2", "v3", "p"))
        self.assertGreater(many, 8)
        # Only the first two texts of the first case can change their places.
        left = from_results(source, target, (((("w0",), "v1", "v2", "v3"),), ((("w1",), "v2", "v3", "v1"),),
                                             ((("w0",), "v1", "v2", "v3"),)))
        right = from_results(source, target, (((("w0",), "v1", "v2", "v3"),), ((("w0",), "v1", "v2", "v3"),),
                                              ((("w0",), "v2", "v1", "v3"),)))
        self.check_evidence(left, right, common_part(left, right)[1])

    def test_constants(self):
        left = compiled(PLAIN, LETTERS, (set_c(choose((equal(A, X), Y), otherwise=A)),))
        right = compiled(PLAIN, TWO, (set_c(A), set_d(choose((equal(B, ("cell", "k")), Y), otherwise=X))))
        self.assertEqual((left[2], right[2]), (("x", "y"), ("k", "x", "y")))
        self.check(left, right, ("p", "q"))
        dropped = compiled(PLAIN, LETTERS, (("drop", equal(A, X)), set_c(A)))
        self.check(dropped, right, ("p", "q"))
        # A constant that is needed by neither the common part nor its source is left out.
        found = self.check(compiled(PLAIN, LETTERS, (set_c(choose((equal(B, X), A), otherwise=A)),)),
                           compiled(PLAIN, TAGS, (tags(equal(B, X)),)), ("p", "q"))
        self.assertEqual(found[2], ())

    def test_results_that_are_not_valid(self):
        nulls = compiled(PLAIN, TWO, (set_c(NULL), set_d(A)))
        found = self.check(nulls, identity(PLAIN), ("p", "q", "r"))
        self.assertEqual(found[3], (((("p1",), "v1"),), ((("p1",), "v1"),)))

    def test_random_migrations_by_a_plain_search(self):
        seen = {"none": 0, "some": 0}
        for first, second in random_pairs(random.Random(4), 12):
            try:
                found = self.check(first, second, ("p", "q", "r", "s"))
            except ValueError as error:
                self.assertIn("TooManyCases", repr(error))
                continue
            seen["none" if found is None else "some"] += 1
        self.assertGreater(seen["some"], 40)

    def test_random_rearrangements_of_the_texts(self):
        rng = random.Random(5)
        both = []
        unlike = (CHOSEN[0], (unequal(A, B),))
        for source in (CHOSEN, unlike):
            for _ in range(12):
                pair = []
                for _ in range(2):
                    results = []
                    for case in cases(source, ()):
                        names = rng.sample(case[0][1:], 2)
                        results.append((tuple(names),))
                    pair.append(from_results(source, TWO, tuple(results)))
                both.append(self.check(*pair, ("p", "q", "r", "s")) is None)
        self.assertGreater(min(both.count(True), both.count(False)), 3)

    def test_whatever_both_keep_can_be_computed_from_it(self):
        for first, second in random_pairs(random.Random(6), 4):
            if raised_text(common_part, first, second) is None and common_part(first, second)[0] is not None:
                found = common_part(first, second)[0]
                constants = constants_of_both(first, second)
                for migration in (first, second):
                    images = {}
                    for record in valid_over(first[0], tuple(sorted({*constants, "p", "q"}))):
                        image = result(migration, record)
                        self.assertEqual(images.setdefault(image, result(found, record)), result(found, record))


class Errors(unittest.TestCase):
    OTHER = ((table("t", text("a"), text("b", True), text("c", True), values("s", 4)),), ())
    THIRD = ((table("t", text("a"), text("b"), text("c"), values("s", 5)),), ())

    def check(self, first, second, expected):
        for function in FUNCTIONS:
            self.assertEqual(raised_text(function, first, second), expected)

    def test_the_sources_differ(self):
        self.check(identity(ONE), identity(PLAIN), "SchemasDiffer()")
        self.check(identity(PAIR), identity(FREE_PAIR), "SchemasDiffer()")
        self.check(dropping(WIDE, ONE, "k", "m"), dropping(PLAIN, ONE, "x"), "SchemasDiffer()")
        for function in FUNCTIONS:
            self.assertIsNone(raised_text(function, dropping(PLAIN, LETTERS), dropping(PLAIN, TWO)))

    def test_too_many_cases_in_their_order(self):
        schemas = (WIDE, self.OTHER, self.THIRD)
        self.assertEqual(len({many_candidates(schema, 3) for schema in schemas}), 3)
        for source, left, right in itertools.permutations(schemas):
            for chosen, first in (((source, left, right), source), ((source, ONE, right), source),
                                  ((source, left, ONE), source), ((ONE, left, right), left), ((ONE, left, ONE), left),
                                  ((ONE, ONE, right), right)):
                migration = dropping(chosen[0], chosen[1], "k")
                other = dropping(chosen[0], chosen[2], "m", "x")
                self.check(migration, other, f"TooManyCases(count={many_candidates(first, 3)})")

    def test_the_target_of_the_common_part(self):
        source = ((table("t", text("a"), values("s", 120)),), ())
        first = identity(source)
        self.assertEqual(len(parts(first, first)), 120)
        self.assertEqual(len(known_positions(first, first)), 120)
        found = common_part(first, first)[0]
        target = found[1]
        self.assertEqual(many_candidates(target, 0), 240)
        source = ((table("t", text("a"), values("s", 151)),), ())
        first = identity(source)
        self.assertEqual(len(parts(first, first)), 151)
        self.assertEqual(raised_text(common_part, first, first), "TooManyCases(count=302)")

    def test_the_target_of_the_common_part_for_the_constants_of_both(self):
        source = ((table("t", text("a"), values("s", 60)),), ())
        tag = ("set", "t", "s", S)
        cycle = choose((equal(A, X), Y), (equal(A, Y), Z), (equal(A, Z), X), otherwise=A)
        moved = compiled(source, source, (set_a(cycle), tag))
        self.assertEqual((moved[2], many_candidates(source, 3)), (("x", "y", "z"), 240))
        self.assertEqual(len(parts(identity(source), moved)), 240)
        # A part for each case, and null, a constant or another text.
        for first, second in ((identity(source), moved), (moved, identity(source)), (moved, moved)):
            self.assertEqual(raised_text(common_part, first, second), f"TooManyCases(count={240 * 5})")
        found = common_part(identity(source), compiled(source, LETTERS, (set_c(A),)))[0]
        self.assertEqual((found[2], len(found[3])), ((), 60))

    def test_no_error_of_the_target_if_there_is_no_common_part(self):
        names = ((table("t", values("s", 70), text("a"), text("b")),), (unequal(A, B),))
        target = ((table("u", values("s", 70), text("c"), text("d")),), ())
        tag = ("set", "u", "s", S)
        half = ("or", tuple(equal(S, ("cell", (f"w{number}",))) for number in range(2)))
        first = compiled(names, target, (tag, set_c(A), set_d(B)))
        second = compiled(names, target, (("set", "u", "s", choose((half, W0), otherwise=S)),
                                          set_c(choose((equal(S, W1), B), otherwise=A)),
                                          set_d(choose((equal(S, W1), A), otherwise=B))))
        third = compiled(names, target, (("set", "u", "s", choose((half, W0), otherwise=S)), set_c(A), set_d(B)))
        self.assertTrue(raised_text(common_part, first, third).startswith("TooManyCases"))
        self.assertEqual(common_part(third, second), (None, (((("w0",), "v1", "v2"),), ((("w0",), "v2", "v1"),))))


if __name__ == "__main__":
    unittest.main()
