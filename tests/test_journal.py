"""Replaying logs [306]."""

import unittest

from migraproof.counting import many_candidates
from migraproof.deployment import Deployment
from migraproof.journal import replayed
from samples import (FREE_PAIR, LETTERS, NULL, ONE, PLAIN, TAGS, TWO, X, column, equal, set_a, set_c, set_d, table,
                     tags, text, values)
from support import raised_text, state

A, C = column("t.a"), column("u.c")
ASK = ("ask", 0, ONE, (set_a(A),))
# Commands that all can be carried out, with steps, archives, a way back, a commit and questions.
COMMANDS = (
    ("put", "k1", (("p", None),)), ("put", "k2", (("p", "q"),)), ASK, ("migrate", LETTERS, (set_c(A),)),
    ("put", "k3", (("x",), (("p1",), "r"))), ("migrate", TAGS, (tags(equal(C, X)),)), ("ask", 1, LETTERS, (set_c(C),)),
    ("drop", "k1"), ("roll back",), ("ask", 1, LETTERS, (set_c(C),)), ("migrate", TWO, (set_c(C), set_d(X))),
    ("put", "k1", (("q", "x"), (("p2",), "q"))), ("ask", 0, PLAIN, (set_a(A), ("set", "t", "b", X))), ("commit",),
    ("put", "k4", (("", "~"),)), ("migrate", LETTERS, (set_c(C),)), ("ask", 0, TWO, (set_c(C), set_d(C))),
    ("drop", "k2"))


class Replayed(unittest.TestCase):
    def carried_out(self, schema, commands):
        deployment = Deployment(schema)
        for command in commands:
            deployment.execute(command)
        return deployment

    def test_whole_and_cut_at_each_place(self):
        for many in range(len(COMMANDS) + 1):
            commands = COMMANDS[:many]
            deployment = self.carried_out(FREE_PAIR, commands)
            log = tuple(command for command in commands if command[0] != "ask")
            self.assertEqual(deployment.log, log)
            for given in (commands, log):
                found = replayed(FREE_PAIR, given)
                self.assertIsInstance(found, Deployment)
                self.assertEqual(state(found), state(deployment))

    def test_the_log_of_each_cut_gives_the_deployment_of_then(self):
        deployment = self.carried_out(FREE_PAIR, COMMANDS)
        for many in range(len(deployment.log) + 1):
            found = replayed(FREE_PAIR, deployment.log[:many])
            self.assertEqual(found.log, deployment.log[:many])
            self.assertEqual(state(found), state(self.carried_out(FREE_PAIR, deployment.log[:many])))

    def test_a_new_deployment(self):
        first, second = replayed(ONE, ()), replayed(ONE, ())
        self.assertEqual(state(first), state(Deployment(ONE)))
        first.put("k", (("p",),))
        self.assertEqual(state(second), state(Deployment(ONE)))

    def test_it_goes_on_like_the_one_before(self):
        deployment = self.carried_out(FREE_PAIR, COMMANDS)
        found = replayed(FREE_PAIR, deployment.log)
        for command in (("roll back",), ("put", "k5", (("p", "q"),)), ("ask", 0, LETTERS, (set_c(column("u.d")),)),
                        ("migrate", LETTERS, (set_c(X),)), ("commit",), ("put", "k6", (("p",),))):
            self.assertEqual(found.execute(command), deployment.execute(command))
            self.assertEqual(state(found), state(deployment))

    def test_40_commands(self):
        log = (("put", "k", (("p",),)), ("drop", "k")) * 20
        found = replayed(ONE, log)
        self.assertEqual((found.log, found.database), (log, ()))
        self.assertEqual(raised_text(found.put, "k", (("p",),)), "LogFull()")
        self.assertEqual(replayed(ONE, (ASK,) * 20 + log[:20]).log, log[:20])

    def test_a_command_that_raises(self):
        put = ("put", "k", (("p",),))
        for command, expected in (
            (("drop", "m"), "UnknownKey(key='m')"), (("put", "m", ((None,),)), "InvalidRecord(key='m')"),
            (("roll back",), "NothingToRollBack()"), (("migrate", ONE, (set_a(NULL),)), "InvalidResults(place=0)"),
            (("ask", 1, ONE, (set_a(A),)), "UnknownVersion(number=1)"),
            (("migrate", ONE, (set_a(A), ("drop", equal(A, X)))), "DropsRecords(place=0)"),
        ):
            for log in ((command,), (put, command), (put, command, ("drop", "no key")), (put, ASK, command)):
                self.assertEqual(raised_text(replayed, ONE, log), expected)

    def test_a_command_that_can_be_carried_out_only_later(self):
        self.assertEqual(raised_text(replayed, ONE, (("drop", "k"), ("put", "k", (("p",),)))), "UnknownKey(key='k')")

    def test_too_many_cases(self):
        wide = ((table("t", *[text(name) for name in "abcdefg"]),), ())
        count = many_candidates(wide, 0)
        self.assertGreater(count, 300)
        for log in ((), (("drop", "k"),), (("put", "k", ()),)):
            self.assertEqual(raised_text(replayed, wide, log), f"TooManyCases(count={count})")
        pairs = ((table("u", *[text(name) for name in "cdef"], values("s", 30)),), ())
        sets = (*[("set", "u", name, A) for name in "cdef"], ("set", "u", "s", ("cell", ("w0",))))
        self.assertEqual(raised_text(replayed, ONE, (("put", "k", (("p",),)), ("migrate", pairs, sets))),
                         f"TooManyCases(count={many_candidates(pairs, 0)})")


if __name__ == "__main__":
    unittest.main()
