"""Deployments [300] to [305]."""

import random
import unittest

from migraproof.archives import archive
from migraproof.counting import many_candidates
from migraproof.deployment import Deployment
from migraproof.fibres import archive_size
from migraproof.migrations import compiled, identity, migrated, result
from migraproof.recovery import recover_record
from migraproof.schemas import is_valid
from migraproof.scripts import applied
from samples import (FREE_PAIR, LETTERS, NULL, ONE, PAIR, PLAIN, TAGS, TWO, X, choose, column, equal, set_a, set_c,
                     set_d, table, tags, text, texts_in, unequal, valid_over, values)
from support import PROPERTIES, raised_text, state

A, B, C, D, S = column("t.a"), column("t.b"), column("u.c"), column("u.d"), column("u.s")
W0, W1 = ("cell", ("w0",)), ("cell", ("w1",))
NOTHING = ((table("u", values("s", 1)),), ())
THREE = ((table("t", text("a"), text("b"), text("c")),), ())
FLAGS = ((table("t", text("a"), values("s", 3)),), ())
NO_X = (ONE[0], (unequal(A, X),))
MANY = ((table("u", text("c"), text("d"), text("e"), text("f"), values("s", 30)),), ())


class Plainly:
    """A deployment as [300] to [305] tell it, that is worked out anew from the migrations whenever it is asked."""

    def __init__(self, schema):
        self.schemas, self.plains, self.steps, self.pairs, self.log = [schema], [schema], [], [], []

    def led_back(self, pairs, version):
        for step in reversed(self.steps[version:]):
            pairs = migrated(recover_record(step)[0], tuple(pairs))
        return pairs

    def execute(self, command):
        word = command[0]
        if word == "ask":
            _, version, target, script = command
            found = [(key, applied(self.schemas[version], target, script, record))
                     for key, record in self.led_back(self.pairs, version)]
            return tuple(pair for pair in found if pair[1] is not None)
        self.log.append(command)
        if word == "put":
            keys = [key for key, _ in self.pairs]
            if command[1] in keys:
                self.pairs[keys.index(command[1])] = command[1:]
            else:
                self.pairs.append(command[1:])
        elif word == "drop":
            removed = [pair for pair in self.pairs if pair[0] == command[1]]
            self.pairs = [pair for pair in self.pairs if pair[0] != command[1]]
            return removed[0][1]
        elif word == "migrate":
            _, target, script = command
            archives = self.schemas[-1][0][len(self.plains[-1][0]):]
            copies = [("set", name, at, ("column", name, at)) for name, _, columns in archives for at, _, _ in columns]
            carried = compiled(self.schemas[-1], ((*target[0], *archives), target[1]), (*script, *copies))
            step = archive(carried)
            self.pairs = list(migrated(step, tuple(self.pairs)))
            self.steps.append(step)
            self.schemas.append(step[1])
            self.plains.append(target)
            return archive_size(carried)
        elif word == "roll back":
            self.pairs = list(self.led_back(self.pairs, len(self.steps) - 1))
            for rows in (self.steps, self.schemas, self.plains):
                del rows[-1]
        else:
            many = len(self.plains[-1][0])
            self.pairs = [(key, record[:many]) for key, record in self.pairs if any(row for row in record[:many])]
            self.schemas = self.plains = [self.plains[-1]]
            self.schemas, self.steps = list(self.schemas), []
        return None


class Checked(unittest.TestCase):
    def refuse(self, deployment, command, expected):
        """The command raises this error, by its method and by `execute`, and changes nothing."""
        before = state(deployment)
        for call in (deployment.execute, lambda each: by_method(deployment, each)):
            self.assertEqual(raised_text(call, command), expected)
            self.assertEqual(state(deployment), before)

    def expect(self, deployment, *pairs):
        """The database, and what `len`, `in` and iteration say of it."""
        self.assertEqual(deployment.database, pairs)
        self.assertEqual(len(deployment), len(pairs))
        self.assertEqual(list(deployment), [key for key, _ in pairs])
        for key, _ in pairs:
            self.assertIs(key in deployment, True)
        self.assertIs("no such key" in deployment, False)


def by_method(deployment, command):
    word = command[0]
    if word == "ask":
        return deployment.ask(command[2], command[3], version=command[1])
    return getattr(deployment, word.replace(" ", "_"))(*command[1:])


class Begin(Checked):
    def test_a_new_deployment(self):
        for schema in (ONE, PAIR, FLAGS):
            self.assertEqual(state(Deployment(schema)), (schema, schema, 0, (), (), (), 0, []))

    def test_too_many_cases(self):
        count = many_candidates(MANY, 0)
        self.assertEqual(count, 450)
        self.assertEqual(raised_text(Deployment, MANY), "TooManyCases(count=450)")
        checked = ((table("t", *[text(name) for name in "abcd"]),),
                   (("or", tuple(equal(A, ("cell", name)) for name in "xyz")),))
        self.assertEqual(raised_text(Deployment, checked), f"TooManyCases(count={many_candidates(checked, 3)})")

    def test_deployments_do_not_share_anything(self):
        one, other = Deployment(ONE), Deployment(ONE)
        one.put("k", (("p",),))
        one.migrate(ONE, (set_a(A),))
        self.assertEqual(state(other), state(Deployment(ONE)))

    def test_its_properties_cannot_be_assigned(self):
        for name in PROPERTIES:
            with self.assertRaises(AttributeError):
                setattr(Deployment(ONE), name, None)


class PutAndDrop(Checked):
    def test_under_a_new_key_and_in_the_old_place(self):
        deployment = Deployment(ONE)
        self.assertIsNone(deployment.put("b", (("p",),)))
        self.assertIsNone(deployment.execute(("put", "a", (("q",),))))
        deployment.put("", (("r",),))
        self.expect(deployment, ("b", (("p",),)), ("a", (("q",),)), ("", (("r",),)))
        deployment.put("b", (("s",),))
        self.expect(deployment, ("b", (("s",),)), ("a", (("q",),)), ("", (("r",),)))
        self.assertEqual(deployment.drop("b"), (("s",),))
        deployment.put("b", (("t",),))
        self.expect(deployment, ("a", (("q",),)), ("", (("r",),)), ("b", (("t",),)))
        self.assertEqual(deployment.log, (
            ("put", "b", (("p",),)), ("put", "a", (("q",),)), ("put", "", (("r",),)), ("put", "b", (("s",),)),
            ("drop", "b"), ("put", "b", (("t",),))))

    def test_the_ninth_key(self):
        deployment = Deployment(ONE)
        for number in range(8):
            deployment.put(f"k{number}", (("p",),))
        self.refuse(deployment, ("put", "k8", (("p",),)), "DatabaseFull()")
        deployment.put("k3", (("q",),))
        self.assertEqual(deployment.database[3], ("k3", (("q",),)))
        deployment.drop("k0")
        deployment.put("k8", (("p",),))
        self.assertEqual(list(deployment), ["k1", "k2", "k3", "k4", "k5", "k6", "k7", "k8"])
        self.refuse(deployment, ("put", "k0", (("p",),)), "DatabaseFull()")

    def test_records_that_are_not_valid(self):
        deployment = Deployment(PAIR)
        deployment.put("k", (("p", "q"),))
        for record in ((("p", "p"),), ((None, "p"),), (("p",),), (), (None,), ((),), ((("p",), None),),
                       (("p", None), ("q",)), (("p", None),) * 10, (("p",) * 24,)):
            self.refuse(deployment, ("put", "k", record), "InvalidRecord(key='k')")
            self.refuse(deployment, ("put", "new", record), "InvalidRecord(key='new')")

    def test_records_of_a_schema_with_many_tables_and_cells(self):
        target = (tuple(table(f"t{number}", *[values(f"c{at}", 1) for at in range(2 + (number < 4))])
                        for number in range(8)), ())
        sets = tuple(("set", name, at, W0) for name, _, columns in target[0] for at, _, _ in columns)
        deployment = Deployment(FLAGS)
        deployment.put("k", (("p", ("w2",)),))
        self.assertEqual(deployment.migrate(target, sets), (1, 3))
        later = (tuple(table(f"u{number}", values("s", 1)) for number in range(8)), ())
        deployment.migrate(later, tuple(("set", f"u{number}", "s", W0) for number in range(8)))
        record = deployment.database[0][1]
        self.assertEqual(len(record), 9)
        deployment.put("m", record)
        self.refuse(deployment, ("put", "m", (*record, record[-1])), "InvalidRecord(key='m')")

    def test_drop(self):
        deployment = Deployment(ONE)
        self.refuse(deployment, ("drop", "k"), "UnknownKey(key='k')")
        deployment.put("k", (("p",),))
        self.refuse(deployment, ("drop", ""), "UnknownKey(key='')")
        self.assertEqual(deployment.execute(("drop", "k")), (("p",),))
        self.refuse(deployment, ("drop", "k"), "UnknownKey(key='k')")
        self.expect(deployment)


class Steps(Checked):
    def deployed(self, schema, *records):
        deployment = Deployment(schema)
        for number, record in enumerate(records):
            deployment.put(f"k{number}", record)
        return deployment

    def step(self, deployment, target, script, size):
        """Takes a step and checks what [301] says of it."""
        before, archives = deployment.schema, deployment.schema[0][len(deployment.plain[0]):]
        many, records = len(deployment.migrations), deployment.database
        self.assertEqual(deployment.migrate(target, script), size)
        step = deployment.migrations[-1]
        self.assertEqual((deployment.version, deployment.plain), (many + 1, target))
        self.assertEqual(len(deployment.migrations), many + 1)
        self.assertEqual((step[0], step[1]), (before, deployment.schema))
        carried = (*target[0], *archives)
        tables = deployment.schema[0]
        self.assertEqual((tables[:len(carried)], deployment.schema[1]), (carried, target[1]))
        self.assertEqual(len(tables) - len(carried), 0 if size == (0, 1) else 1)
        self.assertEqual(deployment.database, migrated(step, records))
        self.assertTrue(all(is_valid(deployment.schema, record) for _, record in deployment.database))
        self.assertEqual(migrated(recover_record(step)[0], deployment.database), records)

    def test_a_step_that_loses_nothing(self):
        deployment = self.deployed(ONE, (("p",),), (("x",),))
        self.step(deployment, TWO, (set_c(A), set_d(X)), (0, 1))
        self.expect(deployment, ("k0", (("p", "x"),)), ("k1", (("x", "x"),)))
        self.assertEqual(deployment.migrations, (compiled(ONE, TWO, (set_c(A), set_d(X))),))

    def test_a_step_that_loses_values(self):
        deployment = self.deployed(FLAGS, (("p", ("w2",)),), (("q", ("w0",)),))
        self.step(deployment, LETTERS, (set_c(A),), (0, 3))
        self.expect(deployment, ("k0", (("p",), (("p3",),))), ("k1", (("q",), (("p1",),))))

    def test_a_step_that_loses_texts(self):
        deployment = self.deployed(PLAIN, (("p", "q"),), (("q", "q"),))
        self.step(deployment, LETTERS, (set_c(A),), (1, 1))
        self.expect(deployment, ("k0", (("p",), ("q",))), ("k1", (("q",), ("q",))))

    def test_a_step_that_loses_both(self):
        deployment = self.deployed(FREE_PAIR, (("p", None),), (("p", "p"),), (("p", "q"),))
        self.step(deployment, LETTERS, (set_c(A),), (1, 2))
        self.expect(deployment, ("k0", (("p",), (("p1",), "p"))), ("k1", (("p",), (("p2",), "p"))),
                    ("k2", (("p",), (("p1",), "q"))))

    def test_up_to_the_version_4(self):
        deployment = self.deployed(THREE, (("p", "q", "r"),), (("p", "p", "q"),))
        self.step(deployment, PLAIN, (set_a(A), ("set", "t", "b", B)), (1, 1))
        self.step(deployment, ONE, (set_a(A),), (1, 1))
        self.step(deployment, NOTHING, (("set", "u", "s", W0),), (1, 1))
        self.assertEqual([name for name, _, _ in deployment.schema[0]], ["u", "archive", "archive2", "archive3"])
        self.expect(deployment, ("k0", ((("w0",),), ("r",), ("q",), ("p",))),
                    ("k1", ((("w0",),), ("q",), ("p",), ("p",))))
        self.step(deployment, NOTHING, (("set", "u", "s", S),), (0, 1))
        self.assertEqual(deployment.version, 4)
        self.refuse(deployment, ("migrate", NOTHING, (("set", "u", "s", S),)), "TooManySteps()")
        self.assertEqual(deployment.ask(THREE, tuple(("set", "t", name, column(f"t.{name}")) for name in "abc")),
                         (("k0", (("p", "q", "r"),)), ("k1", (("p", "p", "q"),))))
        for version in (3, 2, 1, 0):
            self.assertIsNone(deployment.roll_back())
            self.assertEqual(deployment.version, version)
        self.expect(deployment, ("k0", (("p", "q", "r"),)), ("k1", (("p", "p", "q"),)))
        self.assertEqual((deployment.schema, deployment.plain, deployment.migrations), (THREE, THREE, ()))

    def test_dropped_rows_and_dropped_records(self):
        # A row that is left out is archived; a record that would be dropped is refused.
        source = ((table("t", text("a")), table("w", text("b"), optional=True)), ())
        deployment = self.deployed(source, (("p",), ("q",)), (("p",), None))
        self.step(deployment, LETTERS, (set_c(A),), (1, 2))
        target = ((table("u", text("c"), optional=True), table("v", text("d"), optional=True)), ())
        rules = (set_c(A), ("set", "v", "d", X), ("when", "u", ("not", ("exists", "w"))), ("when", "v", ("false",)))
        other = self.deployed(source, (("p",), None))
        self.refuse(other, ("migrate", target, rules), "DropsRecords(place=1)")
        self.refuse(other, ("migrate", LETTERS, (("drop", ("exists", "w")), set_c(A))), "DropsRecords(place=1)")
        self.refuse(other, ("migrate", LETTERS, (("drop", ("true",)), set_c(A))), "DropsRecords(place=0)")

    def test_records_that_are_dropped_but_for_their_archive(self):
        # In the second step the carried archive keeps a row for the records of which nothing else is left.
        target = ((table("u", text("c"), optional=True), table("v", values("s", 1), optional=True)), ())
        deployment = self.deployed(FLAGS, (("p", ("w2",)),), (("q", ("w0",)),))
        self.step(deployment, ONE, (set_a(A),), (0, 3))
        rules = (("set", "u", "c", A), ("set", "v", "s", W0), ("when", "u", unequal(A, X)), ("when", "v", ("false",)))
        deployment.put("k2", (("x",), (("p2",),)))
        self.step(deployment, target, rules, (0, 1))
        self.expect(deployment, ("k0", (("p",), None, (("p3",),))), ("k1", (("q",), None, (("p1",),))),
                    ("k2", (None, None, (("p2",),))))
        self.assertIsNone(deployment.commit())
        self.expect(deployment, ("k0", (("p",), None)), ("k1", (("q",), None)))

    def test_invalid_results(self):
        deployment = self.deployed(FREE_PAIR, (("p", None),))
        self.refuse(deployment, ("migrate", LETTERS, (set_c(B),)), "InvalidResults(place=0)")
        self.refuse(deployment, ("migrate", PAIR, (set_a(A), ("set", "t", "b", B))), "InvalidResults(place=1)")
        self.refuse(deployment, ("migrate", LETTERS, (("drop", equal(B, NULL)), set_c(choose((equal(A, B), NULL),
                                                                                              otherwise=A)))),
                    "InvalidResults(place=1)")

    def test_the_rules_of_the_script_come_first(self):
        # The carried script and target are those of [301], so the migration is too.
        deployment = self.deployed(FREE_PAIR, (("p", "q"),))
        self.step(deployment, LETTERS, (set_c(A),), (1, 2))
        archives = deployment.schema[0][1:]
        copies = tuple(("set", "archive", name, column(f"archive.{name}")) for name in ("value", "text1"))
        expected = compiled(deployment.schema, ((*TAGS[0], *archives), ()), (tags(equal(C, X)), *copies))
        self.step(deployment, TAGS, (tags(equal(C, X)),), archive_size(expected))
        self.assertEqual(deployment.migrations[1], archive(expected))

    def test_tables_called_archive_in_the_target(self):
        target = ((table("archive", text("c")),), ())
        deployment = self.deployed(PLAIN, (("p", "q"),))
        self.step(deployment, target, (("set", "archive", "c", A),), (1, 1))
        self.assertEqual([name for name, _, _ in deployment.schema[0]], ["archive", "archive2"])
        self.step(deployment, NOTHING, (("set", "u", "s", W0),), (1, 1))
        # The plain target has no table called archive any more, but the archive of the first step stays archive2.
        self.assertEqual([name for name, _, _ in deployment.schema[0]], ["u", "archive2", "archive"])
        both = (tuple(table(name, values("s", 1)) for name in ("archive3", "archive2", "archive")), ())
        rules = tuple(("set", name, "s", W0) for name in ("archive3", "archive2", "archive"))
        self.refuse(deployment, ("migrate", both, rules), "NameTaken(name='archive2')")
        turned = ((both[0][2], both[0][1], both[0][0]), ())
        self.refuse(deployment, ("migrate", turned, rules), "NameTaken(name='archive')")
        self.step(deployment, ((both[0][0],), ()), rules[:1], (0, 1))
        self.assertEqual([name for name, _, _ in deployment.schema[0]], ["archive3", "archive2", "archive"])

    def test_archive_and_archive2_in_the_target(self):
        target = ((table("archive2", text("c")), table("archive", values("s", 1))), ())
        deployment = self.deployed(PLAIN, (("p", "q"),))
        self.step(deployment, target, (("set", "archive2", "c", A), ("set", "archive", "s", W0)), (1, 1))
        self.assertEqual([name for name, _, _ in deployment.schema[0]], ["archive2", "archive", "archive3"])
        same = (("set", "archive2", "c", column("archive2.c")), ("set", "archive", "s", W0))
        self.step(deployment, target, same, (0, 1))
        deployment.commit()
        self.step(deployment, ((table("archive3", values("s", 1)),), ()), (("set", "archive3", "s", W0),), (1, 1))
        self.assertEqual([name for name, _, _ in deployment.schema[0]], ["archive3", "archive"])

    def test_too_many_cases(self):
        # One of five text columns is not copied, so a step needs an archive with one text column.
        wide = ((table("t", *[text(name) for name in "abcde"]),), ())
        deployment = self.deployed(wide, (("p", "q", "r", "s", "t"),))
        sets = tuple(("set", "u", name, column(f"t.{old}")) for name, old in zip("cdef", "abcd"))
        count = many_candidates(MANY, 0)
        self.refuse(deployment, ("migrate", MANY, (*sets, ("set", "u", "s", W0))), f"TooManyCases(count={count})")
        drops = tuple(("drop", equal(A, ("cell", name))) for name in "xyz")
        self.refuse(deployment, ("migrate", MANY, (*drops, *sets, ("set", "u", "s", W0))),
                    f"TooManyCases(count={many_candidates(wide, 3)})")
        self.refuse(deployment, ("migrate", ONE, (*drops[:1], set_a(A))), "DropsRecords(place=0)")
        target = ((table("u", *[text(name) for name in "cdef"], values("s", 12)),), ())
        extended = ((*target[0], table("archive", text("text1"))), ())
        self.assertLessEqual(many_candidates(target, 0), 300)
        self.refuse(deployment, ("migrate", target, (*sets, ("set", "u", "s", W0))),
                    f"TooManyCases(count={many_candidates(extended, 0)})")


class NoWayBack(Checked):
    def test_over_one_version(self):
        deployment = Deployment(ONE)
        deployment.migrate(PLAIN, (set_a(A), ("set", "t", "b", A)))
        deployment.put("k", (("p", "p"),))
        self.refuse(deployment, ("put", "k", (("p", "q"),)), "NoWayBack(number=0)")
        self.refuse(deployment, ("put", "m", (("p", "q"),)), "NoWayBack(number=0)")
        self.expect(deployment, ("k", (("p", "p"),)))

    def test_over_several_versions(self):
        deployment = Deployment(NO_X)
        deployment.put("k", (("p",),))
        deployment.migrate(ONE, (set_a(A),))
        deployment.migrate(PLAIN, (set_a(A), ("set", "t", "b", A)))
        deployment.migrate(THREE, (set_a(A), ("set", "t", "b", B), ("set", "t", "c", A)))
        for record, number in (((("p", "p", "q"),), 2), ((("p", "q", "p"),), 1), ((("x", "x", "x"),), 0),
                               ((("x", "y", "y"),), 2)):
            self.refuse(deployment, ("put", "k", record), f"NoWayBack(number={number})")
        deployment.put("k", (("q", "q", "q"),))
        self.assertEqual(deployment.ask(ONE, (set_a(A),)), (("k", (("q",),)),))
        deployment.roll_back()
        self.refuse(deployment, ("put", "k", (("p", "q"),)), "NoWayBack(number=1)")
        self.refuse(deployment, ("put", "k", (("x", "x"),)), "NoWayBack(number=0)")

    def test_archive_rows_that_stand_for_nothing(self):
        deployment = Deployment(FREE_PAIR)
        deployment.migrate(LETTERS, (set_c(A),))
        for row, is_there in (((("p1",), "p"), True), ((("p2",), "p"), True), ((("p1",), "q"), True),
                              ((("p2",), "q"), False)):
            if is_there:
                deployment.put("k", (("p",), row))
            else:
                self.refuse(deployment, ("put", "k", (("p",), row)), "NoWayBack(number=0)")

    def test_after_commit_there_is_always_a_way(self):
        deployment = Deployment(ONE)
        deployment.migrate(PLAIN, (set_a(A), ("set", "t", "b", A)))
        self.refuse(deployment, ("put", "k", (("p", "q"),)), "NoWayBack(number=0)")
        deployment.commit()
        deployment.put("k", (("p", "q"),))
        self.expect(deployment, ("k", (("p", "q"),)))


class BackAndCommit(Checked):
    def test_roll_back_with_archives(self):
        deployment = Deployment(FREE_PAIR)
        deployment.put("k1", (("p", None),))
        deployment.migrate(LETTERS, (set_c(A),))
        deployment.put("k0", (("q",), (("p1",), "r")))
        deployment.drop("k1")
        deployment.put("k1", (("p",), (("p2",), "p")))
        self.assertIsNone(deployment.execute(("roll back",)))
        self.expect(deployment, ("k0", (("q", "r"),)), ("k1", (("p", "p"),)))
        self.assertEqual(state(deployment)[:5], (FREE_PAIR, FREE_PAIR, 0, deployment.database, ()))
        self.assertEqual(deployment.log[-1], ("roll back",))
        self.refuse(deployment, ("roll back",), "NothingToRollBack()")

    def test_commit_with_archives(self):
        deployment = Deployment(FREE_PAIR)
        deployment.put("k1", (("p", None),))
        deployment.put("k2", (("p", "q"),))
        deployment.migrate(LETTERS, (set_c(A),))
        deployment.migrate(TWO, (set_c(C), set_d(X)))
        self.assertEqual(len(deployment.schema[0]), 2)
        self.assertIsNone(deployment.execute(("commit",)))
        self.expect(deployment, ("k1", (("p", "x"),)), ("k2", (("p", "x"),)))
        self.assertEqual(state(deployment)[:5], (TWO, TWO, 0, deployment.database, ()))
        self.assertEqual(deployment.log[-1], ("commit",))
        self.refuse(deployment, ("roll back",), "NothingToRollBack()")
        self.assertEqual(deployment.ask(LETTERS, (set_c(D),)), (("k1", (("x",),)), ("k2", (("x",),))))
        self.assertEqual(deployment.migrate(LETTERS, (set_c(C),)), (1, 1))

    def test_commit_at_the_version_0(self):
        deployment = Deployment(PAIR)
        deployment.put("k", (("p", "q"),))
        self.assertIsNone(deployment.commit())
        self.expect(deployment, ("k", (("p", "q"),)))
        self.assertEqual((deployment.version, deployment.schema, deployment.log),
                         (0, PAIR, (("put", "k", (("p", "q"),)), ("commit",))))

    def test_commit_of_records_that_have_only_archive_rows(self):
        source = ((table("t", values("s", 2), optional=True), table("w", text("b"), optional=True)), ())
        target = ((table("u", text("c"), optional=True),), ())
        deployment = Deployment(source)
        lossy = ((table("t", values("s", 1)), table("w", text("b"), optional=True)), ())
        deployment.put("k1", ((("w1",),), None))
        deployment.put("k2", (None, ("p",)))
        deployment.put("k3", ((("w0",),), ("q",)))
        rules = (("set", "t", "s", W0), ("set", "w", "b", column("w.b")), ("when", "w", ("exists", "w")))
        self.assertEqual(deployment.migrate(lossy, rules), (0, 3))
        rules = (("set", "u", "c", column("w.b")), ("when", "u", ("exists", "w")))
        self.assertEqual(deployment.migrate(target, rules), (0, 1))
        self.assertEqual([record[0] for _, record in deployment.database], [None, ("p",), ("q",)])
        deployment.commit()
        self.expect(deployment, ("k2", (("p",),)), ("k3", (("q",),)))

    def test_forgotten_versions(self):
        deployment = Deployment(ONE)
        deployment.migrate(TWO, (set_c(A), set_d(A)))
        deployment.commit()
        self.refuse(deployment, ("ask", 1, ONE, (set_a(C),)), "UnknownVersion(number=1)")
        for _ in range(4):
            deployment.migrate(TWO, (set_c(C), set_d(D)))
        self.refuse(deployment, ("migrate", TWO, (set_c(C), set_d(D))), "TooManySteps()")
        deployment.roll_back()
        deployment.migrate(TWO, (set_c(D), set_d(C)))
        self.assertEqual(deployment.version, 4)


class Ask(Checked):
    def deployed(self):
        deployment = Deployment(FREE_PAIR)
        for key, record in (("k1", (("p", None),)), ("k2", (("p", "p"),)), ("k0", (("x", "q"),))):
            deployment.put(key, record)
        deployment.migrate(LETTERS, (set_c(A),))
        deployment.migrate(TAGS, (tags(equal(C, X)),))
        return deployment

    def ask(self, deployment, version, target, script):
        before = state(deployment)
        found = deployment.execute(("ask", version, target, script))
        self.assertEqual(deployment.ask(target, script, version=version), found)
        if version == 0:
            self.assertEqual(deployment.ask(target, script), found)
        self.assertEqual(state(deployment), before)
        return found

    def test_at_each_version(self):
        deployment = self.deployed()
        filled = choose((equal(B, NULL), A), otherwise=B)
        self.assertEqual(self.ask(deployment, 0, PLAIN, (set_a(A), ("set", "t", "b", filled))),
                         (("k1", (("p", "p"),)), ("k2", (("p", "p"),)), ("k0", (("x", "q"),))))
        self.assertEqual(self.ask(deployment, 1, LETTERS, (set_c(C),)),
                         (("k1", (("p",),)), ("k2", (("p",),)), ("k0", (("x",),))))
        self.assertEqual(self.ask(deployment, 2, TAGS, (("set", "u", "s", S),)),
                         (("k1", ((("w0",),),)), ("k2", ((("w0",),),)), ("k0", ((("w1",),),))))

    def test_scripts_see_the_archives_of_the_version(self):
        deployment = self.deployed()
        value = column("archive.value")
        second = ((table("u", ("s", ("p1", "p2"), False)),), ())
        self.assertEqual(self.ask(deployment, 1, second, (("set", "u", "s", value),)),
                         (("k1", ((("p1",),),)), ("k2", ((("p2",),),)), ("k0", ((("p1",),),))))
        self.assertEqual([record[1] for _, record in deployment.database],
                         [(("p1",), "p"), (("p2",), "p"), (("p1",), "q")])
        self.assertEqual(self.ask(deployment, 2, second, (("set", "u", "s", value),)),
                         self.ask(deployment, 1, second, (("set", "u", "s", value),)))

    def test_results_that_are_not_valid_and_dropped_records(self):
        deployment = self.deployed()
        self.assertEqual(self.ask(deployment, 0, NO_X, (set_a(A),)),
                         (("k1", (("p",),)), ("k2", (("p",),)), ("k0", (("x",),))))
        self.assertEqual(self.ask(deployment, 0, ONE, (set_a(B),)),
                         (("k1", ((None,),)), ("k2", (("p",),)), ("k0", (("q",),))))
        self.assertEqual(self.ask(deployment, 0, ONE, (set_a(B), ("drop", equal(A, B)))),
                         (("k1", ((None,),)), ("k0", (("q",),))))
        optional = ((table("u", text("c"), optional=True),), ())
        self.assertEqual(self.ask(deployment, 0, optional, (set_c(B), ("when", "u", equal(B, ("cell", "q"))))),
                         (("k0", (("q",),)),))
        self.assertEqual(self.ask(deployment, 0, ONE, (set_a(B), ("drop", ("true",)))), ())

    def test_after_roll_back_and_commit(self):
        deployment = self.deployed()
        deployment.roll_back()
        self.refuse(deployment, ("ask", 2, TAGS, (tags(("true",)),)), "UnknownVersion(number=2)")
        self.assertEqual(self.ask(deployment, 1, LETTERS, (set_c(C),)),
                         (("k1", (("p",),)), ("k2", (("p",),)), ("k0", (("x",),))))
        deployment.commit()
        self.refuse(deployment, ("ask", 1, LETTERS, (set_c(C),)), "UnknownVersion(number=1)")
        self.assertEqual(self.ask(deployment, 0, ONE, (set_a(C),)),
                         (("k1", (("p",),)), ("k2", (("p",),)), ("k0", (("x",),))))

    def test_unknown_versions(self):
        deployment = self.deployed()
        for version in (3, 4, 5, 100, -1, -2, -3, -4):
            self.refuse(deployment, ("ask", version, ONE, (set_a(A),)), f"UnknownVersion(number={version})")
        # If there is no such version, the script may be one for no version.
        self.refuse(deployment, ("ask", 7, ONE, (set_a(column("no.such")),)), "UnknownVersion(number=7)")

    def test_nothing_else_is_raised(self):
        deployment = self.deployed()
        names = tuple(equal(A, ("cell", f"m{number}")) for number in range(60))
        sets = tuple(("set", "u", name, A) for name in "cdef")
        found = self.ask(deployment, 0, MANY, (*sets, ("set", "u", "s", choose((("or", names), W1), otherwise=W0))))
        self.assertEqual(found[0], ("k1", (("p", "p", "p", "p", ("w0",)),)))

    def test_no_database(self):
        self.assertEqual(self.ask(Deployment(ONE), 0, ONE, (set_a(A),)), ())


class Log(Checked):
    def full(self, schema=ONE):
        deployment = Deployment(schema)
        for number in range(40):
            deployment.put("k", (("p",),))
        return deployment

    def test_40_commands(self):
        deployment = self.full()
        self.assertEqual(deployment.log, (("put", "k", (("p",),)),) * 40)
        for command in (("put", "k", (("q",),)), ("put", "k", ()), ("drop", "k"), ("drop", "m"), ("roll back",),
                        ("commit",), ("migrate", ONE, (set_a(A),)), ("migrate", ONE, (set_a(NULL),))):
            self.refuse(deployment, command, "LogFull()")
        self.assertEqual(deployment.ask(ONE, (set_a(A),)), (("k", (("p",),)),))
        self.refuse(deployment, ("ask", 1, ONE, (set_a(A),)), "UnknownVersion(number=1)")

    def test_log_full_comes_before_all_others(self):
        deployment = Deployment(ONE)
        for number in range(8):
            deployment.put(f"k{number}", (("p",),))
        for _ in range(4):
            deployment.migrate(ONE, (set_a(A),))
        for _ in range(28):
            deployment.put("k0", (("q",),))
        self.assertEqual((len(deployment.log), deployment.version), (40, 4))
        for command in (("put", "k8", (("q",),)), ("put", "k8", ((None,),)), ("migrate", ONE, (set_a(A),)),
                        ("drop", "m")):
            self.refuse(deployment, command, "LogFull()")

    def test_commands_that_raise_are_not_logged(self):
        deployment = Deployment(ONE)
        for command in (("drop", "k"), ("roll back",), ("put", "k", ()), ("migrate", ONE, (set_a(NULL),)),
                        ("ask", 1, ONE, (set_a(A),))):
            self.assertIsNotNone(raised_text(deployment.execute, command))
        deployment.ask(ONE, (set_a(A),))
        self.assertEqual(deployment.log, ())

    def test_methods_and_commands_are_logged_alike(self):
        commands = (("put", "k", (("p", "q"),)), ("put", "m", (("p", None),)), ("migrate", LETTERS, (set_c(A),)),
                    ("drop", "m"), ("roll back",), ("migrate", LETTERS, (set_c(A),)), ("commit",))
        one, other = Deployment(FREE_PAIR), Deployment(FREE_PAIR)
        for command in commands:
            self.assertEqual(one.execute(command), by_method(other, command))
            self.assertEqual(state(one), state(other))
        self.assertEqual(one.log, commands)


class Order(Checked):
    def test_put(self):
        deployment = Deployment(ONE)
        deployment.migrate(PLAIN, (set_a(A), ("set", "t", "b", A)))
        for number in range(8):
            deployment.put(f"k{number}", (("p", "p"),))
        self.refuse(deployment, ("put", "new", (("p", None),)), "InvalidRecord(key='new')")
        self.refuse(deployment, ("put", "new", (("p", "q"),)), "NoWayBack(number=0)")
        self.refuse(deployment, ("put", "new", (("p", "p"),)), "DatabaseFull()")

    def test_migrate(self):
        deployment = Deployment(PLAIN)
        deployment.migrate(LETTERS, (set_c(A),))
        taken = ((*MANY[0], table("archive", text("a"))), ())
        sets = (*[("set", "u", name, C) for name in "cdef"], ("set", "u", "s", W0), ("set", "archive", "a", NULL))
        self.refuse(deployment, ("migrate", taken, sets), "NameTaken(name='archive')")
        sets = (*[("set", "u", name, NULL) for name in "cdef"], ("drop", ("true",)), ("set", "u", "s", W0))
        carried = ((*MANY[0], table("archive", text("text1"))), ())
        self.refuse(deployment, ("migrate", MANY, sets), f"TooManyCases(count={many_candidates(carried, 0)})")
        self.refuse(deployment, ("migrate", LETTERS, (set_c(choose((equal(C, X), NULL), otherwise=C)),
                                                      ("drop", equal(C, ("cell", "k"))))), "InvalidResults(place=3)")
        for _ in range(3):
            deployment.migrate(LETTERS, (set_c(C),))
        self.refuse(deployment, ("migrate", taken, sets), "TooManySteps()")


class AgainstThePlainOne(Checked):
    SCHEMAS = (ONE, PLAIN, FREE_PAIR, LETTERS, TWO, TAGS, FLAGS)

    def random_rule(self, rng, source, kind):
        """An expression for a column of the kind."""
        options = [("column", name, at) for name, _, columns in source[0] for at, its_kind, _ in columns
                   if (its_kind == "text") == (kind == "text")]
        if kind != "text":
            options = [("cell", (rng.choice(kind),))]
        return rng.choice(options) if options else ("cell", rng.choice("xy"))

    def random_command(self, rng, deployment):
        word = rng.choice(("put", "put", "put", "drop", "migrate", "migrate", "roll back", "commit", "ask", "ask"))
        if word == "put":
            records = valid_over(deployment.schema, ("p", "q", "x"))
            pairs = [record for _, record in deployment.database]
            return (word, rng.choice(("k1", "k2", "k3")), rng.choice(rng.choice((records, pairs or records))))
        if word == "drop":
            return (word, rng.choice(("k1", "k2", "k3")))
        if word in ("roll back", "commit"):
            return (word,)
        version = rng.randint(0, deployment.version)
        target = rng.choice(self.SCHEMAS)
        source = deployment.plain
        if word == "ask" and version < deployment.version:
            source = deployment.migrations[version][0]
        script = tuple(("set", name, at, self.random_rule(rng, source, kind)) for name, _, columns in target[0]
                       for at, kind, _ in columns)
        return (word, version, target, script) if word == "ask" else (word, target, script)

    def test_random_commands(self):
        rng = random.Random(1)
        seen = {}
        for _ in range(25):
            schema = rng.choice((ONE, FREE_PAIR, FLAGS))
            deployment, plainly = Deployment(schema), Plainly(schema)
            for _ in range(30):
                command = self.random_command(rng, deployment)
                error = raised_text(deployment.execute, command)
                seen[command[0]] = seen.get(command[0], 0) + (error is None)
                if error is not None:
                    continue
                copy = Deployment(schema)
                for earlier in deployment.log:
                    answer = copy.execute(earlier)
                self.assertEqual(state(copy), state(deployment))
                expected = plainly.execute(command)
                if command[0] == "ask":
                    answer = deployment.execute(command)
                self.assertEqual(answer, expected)
                self.assertEqual(deployment.database, tuple(plainly.pairs))
                self.assertEqual((deployment.schema, deployment.plain, deployment.migrations, deployment.log),
                                 (plainly.schemas[-1], plainly.plains[-1], tuple(plainly.steps), tuple(plainly.log)))
                if len(deployment.log) > 12:
                    break
        self.assertEqual(len(seen), 6)
        self.assertGreater(min(seen.values()), 5)

    def test_the_database_can_be_led_back_to_each_version(self):
        deployment = Deployment(THREE)
        records = valid_over(THREE, ("p", "q"))
        for number, record in enumerate(records):
            deployment.put(f"k{number}", record)
        keep = tuple(("set", "t", name, column(f"t.{name}")) for name in "abc")
        deployment.migrate(PLAIN, (set_a(B), ("set", "t", "b", A)))
        deployment.migrate(ONE, (set_a(A),))
        deployment.migrate(FREE_PAIR, (set_a(A), ("set", "t", "b", NULL)))
        self.assertEqual([record for _, record in deployment.ask(THREE, keep)], records)
        self.assertEqual([record for _, record in deployment.ask(PLAIN, (set_a(A), ("set", "t", "b", B)), version=1)],
                         [((b, a),) for ((a, b, _),) in records])
        self.assertEqual([result(identity(ONE), record) for _, record in deployment.ask(ONE, (set_a(A),), version=2)],
                         [((b,),) for ((_, b, _),) in records])
        self.assertEqual([texts_in(record)[0] for _, record in deployment.database], [b for ((_, b, _),) in records])


if __name__ == "__main__":
    unittest.main()
