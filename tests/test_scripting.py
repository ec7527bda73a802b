"""Scripts for given migrations [170]."""

import itertools
import random
import unittest

from migraproof.cases import cases, fixture
from migraproof.composing import followed_by
from migraproof.migrations import compiled, from_results, identity, result
from migraproof.scripting import script_of
from migraproof.scripts import applied, check_script, script_texts
from migraproof.trees import depth
from samples import (FREE_PAIR, IMPOSSIBLE, MIDDLE, NULL, ONE, OPTIONAL, PAIR, SPLIT, TAGGED, X, column, equal,
                     random_result, random_script, random_valid_results, set_a, table, text, texts_in, unequal,
                     valid_over, values)

A, B = column("t.a"), column("t.b")
Y = ("cell", "y")
TWO = ((table("t", text("a"), text("b")),), ())
TAGS = ((table("u", ("s", ("w1", "w0", "other"), True), ("k", ("w0",), False), optional=True), table("v", text("c"))),
        ())
CHECKED = (OPTIONAL[0], (("or", (unequal(column("t.a"), ("cell", "m")), ("exists", "u"))),))
SCHEMAS = (ONE, FREE_PAIR, PAIR, OPTIONAL, TAGGED, SPLIT, TAGS, CHECKED, IMPOSSIBLE)


class ScriptOf(unittest.TestCase):
    def check(self, migration):
        source, target, constants, _ = migration
        script = script_of(migration)
        with self.subTest(migration=migration):
            self.assertIsNone(check_script(source, target, script))
            self.assertEqual(compiled(source, target, script), migration)
            self.assertLessEqual(set(script_texts(script)), set(constants))
            words = [rule[:2] if rule[0] == "when" else rule[:1] for rule in script if rule[0] != "set"]
            self.assertEqual(len(words), len(set(words)))
            for rule in script:
                self.assertLessEqual(depth(rule[-1]), 10)
                self.assertIs(type(rule), tuple)
            self.assertIs(type(script), tuple)
        return script

    def test_migrations_that_drop_everything(self):
        for source, target in itertools.product(SCHEMAS, repeat=2):
            script = self.check(from_results(source, target, (None,) * len(fixture(source, target)[1])))
            self.assertTrue(source == IMPOSSIBLE or any(rule[0] == "drop" for rule in script))

    def test_migrations_that_drop_nothing(self):
        rng = random.Random(17)
        for schema in SCHEMAS:
            script = self.check(identity(schema))
            self.assertNotIn("drop", [rule[0] for rule in script])
        for source, target, own in itertools.product(SCHEMAS[:6], SCHEMAS[:8], ((), ("k",))):
            script = self.check(self.random(rng, source, target, own, 0))
            self.assertNotIn("drop", [rule[0] for rule in script])

    def random(self, rng, source, target, own, drops):
        """A migration with any results, many of which are not valid."""
        constants, records = fixture(source, target, own=own)
        results = tuple(random_result(rng, target, (*constants, *texts_in(record)), drops) for record in records)
        return from_results(source, target, results, own=own)

    def test_migrations_that_drop_something(self):
        rng = random.Random(18)
        for source, target, own in itertools.product(SCHEMAS, SCHEMAS, ((), ("k",), ("v1", "x"))):
            for drops in (0.1, 0.7):
                self.check(self.random(rng, source, target, own, drops))

    def test_migrations_with_valid_results(self):
        rng = random.Random(19)
        for source, target, own in itertools.product((ONE, PAIR, TAGGED, CHECKED), (PAIR, TAGGED, SPLIT), ((), ("k",))):
            constants, records = fixture(source, target, own=own)
            results = random_valid_results(rng, target, constants, records)
            self.check(from_results(source, target, results, own=own))

    def test_migrations_of_scripts(self):
        rng = random.Random(20)
        for source, target in itertools.product(SCHEMAS, SCHEMAS):
            migration = compiled(source, target, random_script(rng, source, target, ("k",)))
            script = self.check(migration)
            for record in valid_over(source, ("k", "m", "v2", "x"))[:60]:
                self.assertEqual(applied(source, target, script, record), result(migration, record))

    def test_migrations_that_leave_rows_out_in_several_ways(self):
        target = ((table("p", text("a"), optional=True), table("q", text("b"), optional=True),
                   table("r", values("s", 2), text("c", True), optional=True)), ())
        w0 = ("cell", ("w0",))
        sets = (("set", "p", "a", A), ("set", "q", "b", B), ("set", "r", "s", w0), ("set", "r", "c", A))
        some, other = equal(A, B), unequal(B, NULL)
        for conditions in itertools.product((None, some, other, ("false",)), repeat=3):
            whens = tuple(("when", name, condition) for name, condition in zip("pqr", conditions) if condition)
            script = self.check(compiled(FREE_PAIR, target, (*sets, *whens)))
            names = {rule[1] for rule in script if rule[0] == "when"}
            self.assertLessEqual(names, {rule[1] for rule in whens})

    def test_a_table_that_never_has_a_row(self):
        target = ((table("p", text("a"), values("s", 2)), table("q", text("b"), optional=True)), ())
        migration = from_results(ONE, target, ((("v1", ("w1",)), None),))
        self.check(migration)

    def test_migrations_that_swap_texts(self):
        swap = ("if", ((equal(A, X), Y), (equal(A, Y), X)), A)
        migration = compiled(ONE, ONE, (set_a(swap),))
        self.assertEqual(migration[2], ("x", "y"))
        self.check(migration)
        self.assertEqual(followed_by(migration, migration), identity(ONE))
        self.check(compiled(TWO, TWO, (set_a(B), ("set", "t", "b", A))))
        self.check(compiled(TWO, TWO, (set_a(("if", ((equal(B, X), Y),), B)), ("set", "t", "b", swap))))
        cycle = ("if", tuple((equal(A, ("cell", old)), ("cell", new)) for old, new in zip("abcd", "bcda")), A)
        self.check(compiled(ONE, ONE, (set_a(cycle),)))

    def test_constants_of_the_schemas_and_others(self):
        source = (ONE[0], (("or", (equal(A, X), unequal(A, Y))),))
        for name in ("x", "y", "z", "v1"):
            self.check(compiled(source, TAGGED, (
                set_a(("if", ((equal(A, ("cell", name)), Y),), A)), ("set", "t", "b", ("cell", name)),
                ("set", "t", "s", ("cell", ("w1",))), ("drop", equal(A, ("cell", "k"))))))

    def test_null_to_columns_of_either_kind(self):
        for schema in (TAGGED, TAGS):
            sets = tuple(("set", name, at, NULL) for name, _, columns in schema[0] for at, _, _ in columns)
            self.check(compiled(schema, schema, sets))

    def test_values_and_texts_with_the_same_letters(self):
        source = ((table("t", ("s", ("x", "v1"), True), text("a", True)),), ())
        value_x, value_v1 = ("cell", ("x",)), ("cell", ("v1",))
        tag = column("t.s")
        self.check(compiled(source, source, (
            ("set", "t", "s", ("if", ((equal(A, X), value_v1), (equal(A, ("cell", "v1")), NULL)), tag)),
            set_a(("if", ((equal(tag, value_x), X), (equal(tag, NULL), A)), ("cell", "v1"))))))

    def test_equal_cells_of_other_kinds_are_not_taken_from_there(self):
        # The column of the source is null wherever that of the target is, but it is of the other kind.
        source = ((table("t", text("a", True)),), ())
        target = ((table("t", values("s", 1, True)),), ())
        migration = from_results(source, target, (((None,),), ((("w0",),),)))
        self.check(migration)

    def test_three_hundred_cases(self):
        constants = tuple(sorted(f"k{number}" for number in range(299)))
        *known, free = cases(ONE, constants)
        for results in ((*known[1:], known[0], free), (*known[::-1], free), (*known[::-1], known[7]),
                        tuple(None if number % 2 else record for number, record in enumerate((*known, free)))):
            self.check(from_results(ONE, ONE, results, own=constants))

    def test_eight_tables_and_twenty_columns(self):
        rng = random.Random(21)
        schema = (tuple(table(f"t{place}", values("s", 2 if place < 2 else 1), values("k", 1),
                              *[text("a")] * (place < 4), optional=place > 5) for place in range(8)), ())
        self.assertEqual(sum(len(columns) for _, _, columns in schema[0]), 20)
        self.assertEqual(len(cases(schema, ())), 240)
        for source, target in ((schema, schema), (schema, OPTIONAL), (PAIR, schema)):
            self.check(self.random(rng, source, target, (), 0.2))

    def test_a_schema_with_many_kinds_of_records(self):
        rng = random.Random(22)
        self.check(self.random(rng, MIDDLE, MIDDLE, ("x",), 0.3))
        self.check(identity(MIDDLE))


if __name__ == "__main__":
    unittest.main()
