"""The examples of the document, word for word, in its order; later ones use the names of earlier ones."""

import unittest

from support import check_examples

# Point 3, as far as the modules go that are there.
BEGINNING = """
>>> from migraproof.reader import read_schema, read_script
>>> before = read_schema("table person { name text; nick text null; status active | banned; } check person.nick != person.name;")
>>> after = read_schema("table account { login text; display text; }")
>>> script = read_script("account.login = person.name; account.display = if person.nick = null then person.name else person.nick;")
"""

TEXTS = """
>>> from migraproof.texts import sample_texts, spare_texts, ascending
>>> sample_texts(3, but=("v1", "v3"))
('v2', 'v4', 'v5')
>>> spare_texts(2)
('c1', 'c2')
>>> ascending(("b", "", "c2", "b", "c10"))
('', 'b', 'c10', 'c2')
"""

RECORDS = """
>>> from migraproof.records import free_texts, renamed, exchanged, canonical, renaming
>>> free_texts((("b", "x", None), None, (("a",), "a", "b")), ("x",))
('b', 'a')
>>> canonical((("v9", "x", "", "v9"),), ("v1", "x"))
(('v2', 'x', 'v3', 'v2'),)
>>> renamed((("a", "b"), (("a",),)), (("a", "b"), ("b", "c")))
(('b', 'c'), (('a',),))
>>> exchanged((("a", "b", "c"),), "a", "c")
(('c', 'b', 'a'),)
>>> renaming((("a", "b", "a"),), (("b", "c", "b"),), ())
(('a', 'b'), ('b', 'c'))
>>> renaming((("a", "b"),), (("b", "b"),), ()) is None
True
"""

TREES = """
>>> from migraproof.trees import texts_of, size, depth, tree_renamed
>>> unlike = ("!=", ("column", "t", "a"), ("cell", "x"))
>>> choice = ("if", ((unlike, ("column", "t", "a")), (("exists", "u"), ("cell", "y"))), ("cell", None))
>>> (texts_of(choice), size(choice), depth(choice))
(('x', 'y'), 8, 1)
>>> tree_renamed(unlike, (("x", "y"), ("t", "z")))
('!=', ('column', 't', 'a'), ('cell', 'y'))
"""

CONDITIONS = """
>>> from migraproof.conditions import holds, cell_of
>>> tables = (("t", False, (("a", "text", True), ("s", ("on", "off"), False))), ("u", True, (("b", "text", True),)))
>>> holds(tables, unlike, (("y", ("on",)), None))
True
>>> cell_of(tables, choice, (("x", ("on",)), None)) is None
True
>>> holds(tables, ("=", ("column", "u", "b"), ("column", "t", "a")), ((None, ("on",)), None))
True
>>> holds(tables, ("=", ("column", "t", "s"), ("cell", ("off",))), (("off", ("on",)), None))
False
"""

SCHEMAS = """
>>> from migraproof.schemas import check_condition, check_schema, constants_of
>>> from migraproof.schemas import has_form, has_shape, fits, is_valid, what_is_wrong
>>> schema = (tables, (unlike, ("or", (("exists", "u"), ("=", ("column", "t", "s"), ("cell", ("on",)))))))
>>> check_schema(schema) is None
True
>>> check_condition(tables, ("=", ("column", "t", "b"), ("cell", None)))
raises UnknownName(name='t.b')
>>> check_condition(tables, ("and", (unlike, ("=", ("cell", "on"), ("column", "t", "s")))))
raises KindMismatch(comparison=('=', ('cell', 'on'), ('column', 't', 's')))
>>> constants_of(schema)
('x',)
>>> is_valid(schema, (("y", ("on",)), None))
True
>>> what_is_wrong(schema, (("x", ("off",)), None))
(('check', 0), ('check', 1))
>>> what_is_wrong(schema, ((("y",), None), ("z",)))
(('kind', 't', 'a'), ('null', 't', 's'))
>>> (has_form(schema, (None, None)), has_shape(schema, (("x", ("no",)), None)), fits(schema, (("x", ("no",)), None)))
(True, True, False)
"""

COUNTING = """
>>> from migraproof.counting import many_candidates, candidate_at, number_of
>>> pair = (("t", False, (("a", "text", False), ("b", "text", True))),)
>>> unlike_pair = (pair, (("!=", ("column", "t", "b"), ("column", "t", "a")),))
>>> many_candidates(unlike_pair, 1)
7
>>> candidate_at(unlike_pair, ("x",), 4)
(('v1', 'x'),)
>>> number_of(unlike_pair, ("x",), (("p", "q"),))
6
"""

TOKENS = """
>>> from migraproof.tokens import tokens_of
>>> tokens_of('a != "x y" ;')
(('word', 'a', 0), ('symbol', '!=', 2), ('literal', 'x y', 5), ('symbol', ';', 11))
>>> tokens_of('ab 3')
raises TextError(place=3, reason='unexpected character')
"""

READER = """
>>> from migraproof.reader import read_condition, read_expression
>>> read_condition('not exists u or t.a != "x" and t.s = on')
('or', (('not', ('exists', 'u')), ('and', (('!=', ('column', 't', 'a'), ('cell', 'x')), ('=', ('column', 't', 's'), ('cell', ('on',)))))))
>>> read_expression('if true then null else if false then "" else t . a')
('if', ((('true',), ('cell', None)), (('false',), ('cell', ''))), ('column', 't', 'a'))
>>> read_schema("table person { }")
raises TextError(place=15, reason='expected a column name')
>>> read_script("person.full_name == person.name;")
raises TextError(place=18, reason='expected an expression')
>>> read_condition("(true and (false)")
raises TextError(place=17, reason='expected )')
"""


class Examples(unittest.TestCase):
    def test_examples_of_the_interface(self):
        names = {}
        for text in (BEGINNING, TEXTS, RECORDS, TREES, CONDITIONS, SCHEMAS, COUNTING, TOKENS, READER):
            check_examples(self, text, names)

    def test_what_point_3_reads(self):
        names = {}
        check_examples(self, BEGINNING, names)
        person_name, nick = ("column", "person", "name"), ("column", "person", "nick")
        self.assertEqual(names["before"], (
            (("person", False, (("name", "text", False), ("nick", "text", True),
                                ("status", ("active", "banned"), False))),), (("!=", nick, person_name),)))
        self.assertEqual(names["after"], (
            (("account", False, (("login", "text", False), ("display", "text", False))),), ()))
        self.assertEqual(names["script"], (
            ("set", "account", "login", person_name),
            ("set", "account", "display", ("if", ((("=", nick, ("cell", None)), person_name),), nick))))


if __name__ == "__main__":
    unittest.main()
