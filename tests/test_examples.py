"""The examples of the document, word for word, in its order; later ones use the names of earlier ones."""

import unittest

from support import check_examples

POINT_3 = """
>>> from migraproof.reader import read_schema, read_script
>>> from migraproof.migrations import compiled
>>> from migraproof.analysis import analyze
>>> from migraproof.capacity import capacity, excess
>>> from migraproof.repair import repair
>>> from migraproof.fibres import archive_size
>>> before = read_schema("table person { name text; nick text null; status active | banned; } check person.nick != person.name;")
>>> after = read_schema("table account { login text; display text; }")
>>> script = read_script("account.login = person.name; account.display = if person.nick = null then person.name else person.nick;")
>>> draft = compiled(before, after, script)
>>> analyze(draft)
(None, ((('v1', None, ('active',)),), (('v1', None, ('banned',)),)), None)
>>> (capacity(before), capacity(after))
((0, 0, 2), (0, 0, 1))
>>> excess(before, after)
(1, 2, 1)
>>> repair(draft) is None
True
>>> archive_size(draft)
(0, 2)
"""

TEXTS = """
>>> from migraproof.texts import sample_texts, spare_texts, ascending
>>> sample_texts(3, but=("v1", "v3"))
('v2', 'v4', 'v5')
>>> spare_texts(2)
('c1', 'c2')
>>> ascending(("b", "", "c2", "b", "c10"))
('', 'b', 'c10', 'c2')
"""

RECORDS = """
>>> from migraproof.records import free_texts, renamed, exchanged, canonical, renaming
>>> free_texts((("b", "x", None), None, (("a",), "a", "b")), ("x",))
('b', 'a')
>>> canonical((("v9", "x", "", "v9"),), ("v1", "x"))
(('v2', 'x', 'v3', 'v2'),)
>>> renamed((("a", "b"), (("a",),)), (("a", "b"), ("b", "c")))
(('b', 'c'), (('a',),))
>>> exchanged((("a", "b", "c"),), "a", "c")
(('c', 'b', 'a'),)
>>> renaming((("a", "b", "a"),), (("b", "c", "b"),), ())
(('a', 'b'), ('b', 'c'))
>>> renaming((("a", "b"),), (("b", "b"),), ()) is None
True
"""

TREES = """
>>> from migraproof.trees import texts_of, size, depth, tree_renamed
>>> unlike = ("!=", ("column", "t", "a"), ("cell", "x"))
>>> choice = ("if", ((unlike, ("column", "t", "a")), (("exists", "u"), ("cell", "y"))), ("cell", None))
>>> (texts_of(choice), size(choice), depth(choice))
(('x', 'y'), 8, 1)
>>> tree_renamed(unlike, (("x", "y"), ("t", "z")))
('!=', ('column', 't', 'a'), ('cell', 'y'))
"""

CONDITIONS = """
>>> from migraproof.conditions import holds, cell_of
>>> tables = (("t", False, (("a", "text", True), ("s", ("on", "off"), False))), ("u", True, (("b", "text", True),)))
>>> holds(tables, unlike, (("y", ("on",)), None))
True
>>> cell_of(tables, choice, (("x", ("on",)), None)) is None
True
>>> holds(tables, ("=", ("column", "u", "b"), ("column", "t", "a")), ((None, ("on",)), None))
True
>>> holds(tables, ("=", ("column", "t", "s"), ("cell", ("off",))), (("off", ("on",)), None))
False
"""

SCHEMAS = """
>>> from migraproof.schemas import check_condition, check_schema, constants_of
>>> from migraproof.schemas import has_form, has_shape, fits, is_valid, what_is_wrong
>>> schema = (tables, (unlike, ("or", (("exists", "u"), ("=", ("column", "t", "s"), ("cell", ("on",)))))))
>>> check_schema(schema) is None
True
>>> check_condition(tables, ("=", ("column", "t", "b"), ("cell", None)))
raises UnknownName(name='t.b')
>>> check_condition(tables, ("and", (unlike, ("=", ("cell", "on"), ("column", "t", "s")))))
raises KindMismatch(comparison=('=', ('cell', 'on'), ('column', 't', 's')))
>>> constants_of(schema)
('x',)
>>> is_valid(schema, (("y", ("on",)), None))
True
>>> what_is_wrong(schema, (("x", ("off",)), None))
(('check', 0), ('check', 1))
>>> what_is_wrong(schema, ((("y",), None), ("z",)))
(('kind', 't', 'a'), ('null', 't', 's'))
>>> (has_form(schema, (None, None)), has_shape(schema, (("x", ("no",)), None)), fits(schema, (("x", ("no",)), None)))
(True, True, False)
"""

COUNTING = """
>>> from migraproof.counting import many_candidates, candidate_at, number_of
>>> pair = (("t", False, (("a", "text", False), ("b", "text", True))),)
>>> unlike_pair = (pair, (("!=", ("column", "t", "b"), ("column", "t", "a")),))
>>> many_candidates(unlike_pair, 1)
7
>>> candidate_at(unlike_pair, ("x",), 4)
(('v1', 'x'),)
>>> number_of(unlike_pair, ("x",), (("p", "q"),))
6
"""

CASES = """
>>> from migraproof.cases import each_candidate, cases, fixture
>>> list(each_candidate(unlike_pair, ()))
[(('v1', None),), (('v1', 'v1'),), (('v1', 'v2'),)]
>>> cases(unlike_pair, ("x",))
((('x', None),), (('x', 'v1'),), (('v1', None),), (('v1', 'x'),), (('v1', 'v2'),))
>>> fixture(unlike_pair, schema, own=("b", "b"))[0]
('b', 'x')
"""

DESCRIBING = """
>>> from migraproof.describing import apart, description, condition_of
>>> apart(unlike_pair, (("p", "p"),), (("p", "q"),), ())
('=', ('column', 't', 'b'), ('column', 't', 'a'))
>>> apart(unlike_pair, (("p", "q"),), (("x", "p"),), ("x",))
('=', ('column', 't', 'a'), ('cell', 'x'))
>>> holds(pair, description(unlike_pair, (("p", "q"),), ("x",)), (("q", "y"),))
True
>>> holds(pair, condition_of(unlike_pair, ("x",), (0, 6)), (("x", "p"),))
False
"""

POLYNOMIALS = """
>>> from migraproof.polynomials import value_at, added, multiplied, falling, signs, compare
>>> (value_at((1, -2, 1), 5), added((1, 2), (3, -2)), multiplied((1, 1), (1, -1)), falling(2, 2))
(16, (4,), (1, 0, -1), (6, -5, 1))
>>> signs((3, -4, 1))
((0, 1), (1, 0), (2, -1), (3, 0), (4, 1))
>>> (signs(()), compare((0, 0, 1), (0, 5)), compare((7,), (7,)))
(((0, 0),), (6, 1), (0, 0))
"""

CAPACITY = """
>>> from migraproof.capacity import counts, from_counts, records_over
>>> counts(unlike_pair, ("x",))
(1, 3, 1)
>>> (from_counts((1, 3, 1), 1), capacity(unlike_pair), capacity(schema))
((0, 0, 1), (0, 0, 1), (0, 3, 2))
>>> records_over(unlike_pair, ("p", "q"))
((('p', None),), (('p', 'q'),), (('q', None),), (('q', 'p'),))
>>> (excess(unlike_pair, schema) is None, excess(schema, unlike_pair))
(True, (1, 5, 1))
"""

SCRIPTS = """
>>> from migraproof.scripts import check_script, applied, script_texts
>>> people = ((("person", False, (("name", "text", False), ("city", "text", True), ("status", ("member", "guest"), False))),), ())
>>> split = ((("person", False, (("full_name", "text", False),)), ("address", True, (("city", "text", False),))), ())
>>> name, city = ("column", "person", "name"), ("column", "person", "city")
>>> rules = (("set", "person", "full_name", name), ("when", "address", ("!=", city, ("cell", None))), ("set", "address", "city", city))
>>> check_script(people, split, rules) is None
True
>>> applied(people, split, rules, (("ann", "rome", ("member",)),))
(('ann',), ('rome',))
>>> applied(people, split, rules, (("bob", None, ("guest",)),))
(('bob',), None)
>>> check_script(people, split, rules[:2])
raises NotAssigned(name='address.city')
>>> check_script(people, split, (("set", "person", "full_name", ("column", "person", "status")),))
raises WrongKind(name='person.full_name')
>>> script_texts((("drop", unlike), ("set", "t", "a", choice)))
('x', 'y')
"""

MIGRATIONS = """
>>> from migraproof.migrations import from_results, identity, reduced, first_use, examples, result, migrated
>>> one = ((("t", False, (("a", "text", False),)),), ())
>>> a = ("column", "t", "a")
>>> swap = compiled(one, one, (("drop", ("=", a, ("cell", "z"))), ("set", "t", "a", ("if", ((("=", a, ("cell", "x")), ("cell", "y")),), a))))
>>> swap[2]
('x', 'y', 'z')
>>> examples(swap)
(((('x',),), (('y',),)), ((('y',),), (('y',),)), ((('z',),), None), ((('v1',),), (('v1',),)))
>>> compiled(one, one, (("set", "t", "a", ("if", ((("=", a, ("cell", "x")), ("cell", "x")),), a)),)) == identity(one)
True
>>> first_use(swap, "y")
((('x',),), 'v1')
>>> reduced((one, one, ("k",), ((("k",),), (("v1",),)))) == identity(one)
True
>>> migrated(swap, (("k1", (("x",),)), ("k2", (("z",),)), ("k3", (("v7",),))))
(('k1', (('y',),)), ('k3', (('v7',),)))
>>> from_results(one, one, (None, (("v2",),)), own=("x",))
raises UnknownText(place=1, text='v2')
>>> result(swap, ((None,),))
raises InvalidRecord(key=None)
"""

COMPOSING = """
>>> from migraproof.composing import followed_by
>>> followed_by(swap, swap) == swap
True
"""

SCRIPTING = """
>>> from migraproof.scripting import script_of
>>> compiled(one, one, script_of(swap)) == swap
True
"""

ANALYSIS = """
>>> from migraproof.analysis import compare_migrations, is_lossless, inverse
>>> two = ((("t", False, (("a", "text", False), ("b", "text", False))),), ())
>>> b = ("column", "t", "b")
>>> turned = compiled(two, two, (("set", "t", "a", b), ("set", "t", "b", a)))
>>> compare_migrations(turned, identity(two))
((('v1', 'v2'),), (('v2', 'v1'),), (('v1', 'v2'),))
>>> inverse(turned) == turned
True
>>> unequal = ((("u", False, (("c", "text", False), ("d", "text", False))),), (("!=", ("column", "u", "c"), ("column", "u", "d")),))
>>> nullable = (pair, ())
>>> partly = compiled(nullable, unequal, (("drop", ("=", b, a)), ("set", "u", "c", a), ("set", "u", "d", b)))
>>> analyze(partly)
(((('v1', None),), (('v1', None),)), ((('v1', 'v1'),), None), None)
>>> is_lossless(partly)
False
"""

DETECTING = """
>>> from migraproof.detecting import undetected
>>> undetected(one, one, ((("p",),),)) is None
True
>>> undetected(one, one, ((("p",),),), own=("x",)) == ((one, one, (), (None,)), (one, one, ("x",), (((None,),), None)), (("x",),))
True
"""

RECOVERY = """
>>> from migraproof.recovery import recover, recover_record, is_collision
>>> free = ((("u", False, (("c", "text", False), ("d", "text", False))),), ())
>>> filled = compiled(nullable, free, (("set", "u", "c", a), ("set", "u", "d", ("if", ((("=", b, ("cell", None)), a),), b))))
>>> recover_record(filled)
(None, ((('v1', None),), (('v1', 'v1'),)))
>>> is_collision(filled, identity(nullable), (("p", "p"),), (("p", None),))
True
>>> answer = ((("answer", False, (("differs", ("yes", "no"), False),)),), ())
>>> no_difference = ("or", (("=", b, ("cell", None)), ("=", b, a)))
>>> question = compiled(nullable, answer, (("set", "answer", "differs", ("if", ((no_difference, ("cell", ("no",))),), ("cell", ("yes",)))),))
>>> examples(recover(filled, question)[0])
(((('v1', 'v1'),), ((('no',),),)), ((('v1', 'v2'),), ((('yes',),),)))
"""

REPAIR = """
>>> from migraproof.repair import spare_needed, kept, equivalence
>>> item = ((("item", False, (("name", "text", False), ("size", ("small", "large", "huge"), False))),), ())
>>> shown = ((("shown", False, (("first", "text", False), ("second", "text", True))),), ())
>>> first_draft = compiled(item, shown, (("set", "shown", "first", ("column", "item", "name")), ("set", "shown", "second", ("cell", None))))
>>> (spare_needed(first_draft), kept(first_draft))
(2, (True, False, False, True, False, False, True, False, False))
>>> repair(first_draft)[2:]
(('c1', 'c2'), ((('c1', None),), (('c1', 'c1'),), (('c1', 'c2'),), (('c2', None),), (('c2', 'c1'),), (('c2', 'c2'),), (('v1', None),), (('c1', 'v1'),), (('c2', 'v1'),)))
>>> (excess(item, shown) is None, excess(shown, item), equivalence(item, shown) is None)
(True, (3, 12, 9), True)
>>> examples(equivalence(unlike_pair, free)[0])
(((('v1', None),), (('v1', 'v1'),)), ((('v1', 'v2'),), (('v1', 'v2'),)))
"""

FIBRES = """
>>> from migraproof.fibres import hidden_texts, groups, fibre, crowded
>>> letters = ((("u", False, (("c", "text", False),)),), ())
>>> shortened = compiled(nullable, letters, (("set", "u", "c", a),))
>>> (hidden_texts(shortened), groups(shortened), fibre(shortened, 0))
(((), (), ('v2',)), ((0, 1, 2),), (1, 1))
>>> (archive_size(shortened), crowded(shortened, 1, 2) is None, crowded(shortened, 1, 1), crowded(shortened, 0, 9))
((1, 2), True, (0, 1), (0, 9))
"""

ARCHIVES = """
>>> from migraproof.archives import text_rows, many_text_rows, archive
>>> (text_rows(("x", "b"), 2, 1), many_text_rows(2, 2, 1))
((('x', 'v1'), ('b', 'v1'), ('v1', 'x'), ('v1', 'b'), ('v1', 'v1')), 5)
>>> examples(archive(shortened))
(((('v1', None),), (('v1',), (('p1',), 'v1'))), ((('v1', 'v1'),), (('v1',), (('p2',), 'v1'))), ((('v1', 'v2'),), (('v1',), (('p1',), 'v2'))))
>>> archive(shortened)[1][0][1]
('archive', False, (('value', ('p1', 'p2'), False), ('text1', 'text', False)))
>>> recover_record(archive(shortened))[1] is None
True
"""

COMMON = """
>>> from migraproof.common import known_positions, parts, common_part
>>> tagged = ((("t", False, (("tag", ("x", "y"), False), ("a", "text", False), ("b", "text", False))),), ())
>>> copied = compiled(tagged, free, (("set", "u", "c", a), ("set", "u", "d", b)))
>>> doubled = compiled(tagged, free, (("set", "u", "c", a), ("set", "u", "d", a)))
>>> known_positions(copied, doubled)
(((0,), (0,)), ((0,), (0,)), ((0,), (0,)), ((0,), (0,)))
>>> parts(copied, doubled)
(((0, 1, 2, 3), False),)
>>> examples(common_part(copied, doubled)[0])[1]
(((('x',), 'v1', 'v2'),), ((('p1',), 'v1'),))
>>> is_x = ("=", ("column", "t", "tag"), ("cell", ("x",)))
>>> crossed = compiled(tagged, free, (("set", "u", "c", ("if", ((is_x, a),), b)), ("set", "u", "d", ("if", ((is_x, b),), a))))
>>> common_part(copied, crossed)[0] is None
True
"""

CHAINS = """
>>> from migraproof.chains import joining_chain
>>> joining_chain(copied, doubled, ((("x",), "p", "q"),), ((("x",), "q", "q"),))
()
>>> chain = joining_chain(copied, doubled, ((("x",), "p", "q"),), ((("y",), "p", "r"),))
>>> (chain[0], chain[-1])
(((('x',), 'p', 'q'),), ((('y',), 'p', 'r'),))
"""

TOKENS = """
>>> from migraproof.tokens import tokens_of
>>> tokens_of('a != "x y" ;')
(('word', 'a', 0), ('symbol', '!=', 2), ('literal', 'x y', 5), ('symbol', ';', 11))
>>> tokens_of('ab 3')
raises TextError(place=3, reason='unexpected character')
"""

READER = """
>>> from migraproof.reader import read_condition, read_expression
>>> read_condition('not exists u or t.a != "x" and t.s = on')
('or', (('not', ('exists', 'u')), ('and', (('!=', ('column', 't', 'a'), ('cell', 'x')), ('=', ('column', 't', 's'), ('cell', ('on',)))))))
>>> read_expression('if true then null else if false then "" else t . a')
('if', ((('true',), ('cell', None)), (('false',), ('cell', ''))), ('column', 't', 'a'))
>>> read_schema("table person { }")
raises TextError(place=15, reason='expected a column name')
>>> read_script("person.full_name == person.name;")
raises TextError(place=18, reason='expected an expression')
>>> read_condition("(true and (false)")
raises TextError(place=17, reason='expected )')
"""

PRINTER = r"""
>>> from migraproof.printer import show_tree, show_schema, show_script
>>> show_tree(("and", (("or", (unlike, ("true",))), ("not", ("and", (("exists", "u"), ("false",)))))))
'(t.a != "x" or true) and not (exists u and false)'
>>> show_schema(one)
'table t {\n  a text;\n}\n'
>>> show_script((("drop", unlike), ("set", "t", "a", choice)))
'drop when t.a != "x";\nt.a = if t.a != "x" then t.a else if exists u then "y" else null;\n'
"""

DEPLOYMENT = """
>>> from migraproof.deployment import Deployment
>>> plain = ((("person", False, (("name", "text", False), ("city", "text", True))),), ())
>>> named = ((("account", False, (("login", "text", False),)),), ())
>>> deployment = Deployment(plain)
>>> deployment.put("k1", (("ann", None),))
>>> deployment.migrate(named, (("set", "account", "login", name),))
(1, 2)
>>> deployment.database
(('k1', (('ann',), (('p1',), 'ann'))),)
>>> deployment.ask(plain, (("set", "person", "name", name), ("set", "person", "city", city)))
(('k1', (('ann', None),)),)
>>> deployment.put("k2", (("bob",), (("p2",), "rome")))
raises NoWayBack(number=0)
>>> deployment.put("k2", (("bob",), (("p1",), "rome")))
>>> deployment.roll_back()
>>> deployment.database
(('k1', (('ann', None),)), ('k2', (('bob', 'rome'),)))
>>> (len(deployment), "k2" in deployment, list(deployment), deployment.version)
(2, True, ['k1', 'k2'], 0)
"""

JOURNAL = """
>>> from migraproof.journal import replayed
>>> replayed(plain, deployment.log).database == deployment.database
True
"""

ALL = (POINT_3, TEXTS, RECORDS, TREES, CONDITIONS, SCHEMAS, COUNTING, CASES, DESCRIBING, POLYNOMIALS, CAPACITY,
       SCRIPTS, MIGRATIONS, COMPOSING, SCRIPTING, ANALYSIS, DETECTING, RECOVERY, REPAIR, FIBRES, ARCHIVES, COMMON,
       CHAINS, TOKENS, READER, PRINTER, DEPLOYMENT, JOURNAL)


class Examples(unittest.TestCase):
    def test_all_examples_in_one_run(self):
        names = {}
        for text in ALL:
            check_examples(self, text, names)

    def test_what_point_3_reads(self):
        names = {}
        check_examples(self, POINT_3, names)
        person_name, nick = ("column", "person", "name"), ("column", "person", "nick")
        self.assertEqual(names["before"], (
            (("person", False, (("name", "text", False), ("nick", "text", True),
                                ("status", ("active", "banned"), False))),), (("!=", nick, person_name),)))
        self.assertEqual(names["after"], (
            (("account", False, (("login", "text", False), ("display", "text", False))),), ()))
        self.assertEqual(names["script"], (
            ("set", "account", "login", person_name),
            ("set", "account", "display", ("if", ((("=", nick, ("cell", None)), person_name),), nick))))


if __name__ == "__main__":
    unittest.main()
