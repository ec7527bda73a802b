"""Reading schemas, conditions, expressions and scripts [280] to [284]."""

import unittest

from migraproof.reader import read_condition, read_expression, read_schema, read_script
from support import raised_text

A = ("column", "t", "a")
B = ("column", "t", "b")
NULL = ("cell", None)
TRUE = ("true",)
FALSE = ("false",)
RESERVED = ("table", "optional", "text", "null", "check", "and", "or", "not", "exists", "true", "false", "if", "then",
            "else", "drop", "when")


def fault(place, reason):
    return f"TextError(place={place}, reason={reason!r})"


class Reading(unittest.TestCase):
    """What the classes below use."""

    def check(self, read, source, expected):
        with self.subTest(source=source):
            self.assertEqual(read(source), expected)

    def fails(self, read, source, reason):
        """Checks the error; its place is that of the `@` in the source, which is left out, or the end."""
        source, _, behind = source.partition("@")
        place = len(source)
        source += behind
        with self.subTest(source=source):
            self.assertEqual(raised_text(read, source), fault(place, reason))


class Conditions(Reading):
    def test_each_negation(self):
        for source, tree in (
            ("true", TRUE), ("false", FALSE), ("exists u", ("exists", "u")), ("not true", ("not", TRUE)),
            ("not not exists u_2", ("not", ("not", ("exists", "u_2")))), ("(true)", TRUE), ("((false))", FALSE),
            ("not (true)", ("not", TRUE)), ("t.a = t.b", ("=", A, B)), ("t.a != t.b", ("!=", A, B)),
        ):
            self.check(read_condition, source, tree)

    def test_each_operand_on_each_side(self):
        operands = (("null", NULL), ('""', ("cell", "")), ('"x y"', ("cell", "x y")), ('"null"', ("cell", "null")),
                    ("on", ("cell", ("on",))), ("t.a", A), ("t\n. a", A), ('"and"', ("cell", "and")),
                    ('")"', ("cell", ")")))
        for first, left in operands:
            for second, right in operands:
                self.check(read_condition, f"{first}={second}", ("=", left, right))
                self.check(read_condition, f"{first} != {second}", ("!=", left, right))

    def test_not_belongs_to_the_nearest(self):
        self.check(read_condition, "not true and false", ("and", (("not", TRUE), FALSE)))
        self.check(read_condition, "not true or false", ("or", (("not", TRUE), FALSE)))
        self.check(read_condition, "not (true or false)", ("not", ("or", (TRUE, FALSE))))
        self.check(read_condition, "not t.a = null and true", ("and", (("not", ("=", A, NULL)), TRUE)))

    def test_and_and_or_have_all_their_parts(self):
        self.check(read_condition, "true and false", ("and", (TRUE, FALSE)))
        self.check(read_condition, "true and false and true and true", ("and", (TRUE, FALSE, TRUE, TRUE)))
        self.check(read_condition, "true or false", ("or", (TRUE, FALSE)))
        self.check(read_condition, "true or false or false", ("or", (TRUE, FALSE, FALSE)))

    def test_and_is_closer_than_or(self):
        both = ("and", (TRUE, FALSE))
        self.check(read_condition, "true and false or true", ("or", (both, TRUE)))
        self.check(read_condition, "true or true and false", ("or", (TRUE, both)))
        self.check(read_condition, "true and false or true and false or true", ("or", (both, both, TRUE)))

    def test_parentheses_group(self):
        either = ("or", (TRUE, FALSE))
        both = ("and", (TRUE, FALSE))
        self.check(read_condition, "(true or false) or true", ("or", (either, TRUE)))
        self.check(read_condition, "true or (true or false)", ("or", (TRUE, either)))
        self.check(read_condition, "(true and false) and true", ("and", (both, TRUE)))
        self.check(read_condition, "true and (true and false)", ("and", (TRUE, both)))
        self.check(read_condition, "(true or false) and (true and false)", ("and", (either, both)))
        self.check(read_condition, "(true or false)", either)
        self.check(read_condition, "((true) or (false))", either)

    def test_blanks_and_line_feeds(self):
        self.check(read_condition, "\n t.a\n=\n\"x\"  and(true)\n", ("and", (("=", A, ("cell", "x")), TRUE)))
        self.check(read_condition, 't.a="x"or"y"=t.b', ("or", (("=", A, ("cell", "x")), ("=", ("cell", "y"), B))))

    def test_a_long_condition(self):
        self.check(read_condition, " or ".join(["true"] * 240), ("or", (TRUE,) * 240))


class Expressions(Reading):
    def test_operands(self):
        for source, tree in (("null", NULL), ('""', ("cell", "")), (' "if"', ("cell", "if")), ("on", ("cell", ("on",))),
                             ("t.a", A), ("t . a", A)):
            self.check(read_expression, source, tree)

    def test_if(self):
        self.check(read_expression, "if true then t.a else t.b", ("if", ((TRUE, A),), B))
        self.check(read_expression, "if true or false then null else on",
                   ("if", ((("or", (TRUE, FALSE)), NULL),), ("cell", ("on",))))

    def test_else_if_goes_on(self):
        self.check(read_expression, "if true then t.a else if false then t.b else if exists u then null else on",
                   ("if", ((TRUE, A), (FALSE, B), (("exists", "u"), NULL)), ("cell", ("on",))))

    def test_if_inside_a_branch(self):
        inner = ("if", ((FALSE, A),), B)
        self.check(read_expression, "if true then if false then t.a else t.b else null", ("if", ((TRUE, inner),), NULL))
        self.check(read_expression, "if true then null else if true then if false then t.a else t.b else null",
                   ("if", ((TRUE, NULL), (TRUE, inner)), NULL))
        self.check(read_expression, "if true then if false then t.a else t.b else if true then null else t.a",
                   ("if", ((TRUE, inner), (TRUE, NULL)), A))

    def test_many_branches(self):
        many = 70
        self.check(read_expression, "if true then null else " * many + "null", ("if", ((TRUE, NULL),) * many, NULL))


class Schemas(Reading):
    def test_tables(self):
        self.check(read_schema, "table t { a text; }", ((("t", False, (("a", "text", False),)),), ()))
        self.check(read_schema, "optional table t { a text null; }", ((("t", True, (("a", "text", True),)),), ()))
        self.check(read_schema, "table t{a on;b x|y|z null;c text;}optional table u{a text;}",
                   ((("t", False, (("a", ("on",), False), ("b", ("x", "y", "z"), True), ("c", "text", False))),
                     ("u", True, (("a", "text", False),))), ()))

    def test_tables_and_checks_may_be_mixed(self):
        table = ("t", False, (("a", "text", True),))
        other = ("u", True, (("b", "text", True),))
        self.check(read_schema, "check exists u; table t { a text null; } check true or false;\n"
                                "optional table u { b text null; } check t.a = u.b;",
                   ((table, other), (("exists", "u"), ("or", (TRUE, FALSE)), ("=", A, ("column", "u", "b")))))

    def test_the_flags_are_true_and_false(self):
        (optional, _), _ = read_schema("optional table t { a text; b text null; } table u { c text; }")
        self.assertIs(optional[1], True)
        self.assertIs(optional[2][0][2], False)
        self.assertIs(optional[2][1][2], True)

    def test_names_may_occur_in_several_places(self):
        self.check(read_schema, "table a { a a | b; b b | a; }",
                   ((("a", False, (("a", ("a", "b"), False), ("b", ("b", "a"), False))),), ()))

    def test_no_tables(self):
        self.fails(read_schema, "check true;", "no tables")
        self.fails(read_schema, "check exists u; check t.a = null; \n ", "no tables")

    def test_the_errors_of_the_schema_come_behind_those_of_reading(self):
        twice = "table t { a text; } table t { a text; }"
        for source, expected in (
            (twice, "DuplicateName(name='t')"),
            ("table t { a text; a x; }", "DuplicateName(name='t.a')"),
            ("table t { a x | y | x; }", "DuplicateName(name='t.a x')"),
            ("check exists u; table t { a text; }", "UnknownName(name='u')"),
            ("check t.b = null; table t { a text; }", "UnknownName(name='t.b')"),
            ("check t.a = on; table t { a text; }",
             "KindMismatch(comparison=('=', ('column', 't', 'a'), ('cell', ('on',))))"),
            ("check exists u;", fault(15, "no tables")),
            (twice + " check", fault(45, "expected a condition")),
            (twice + " 7", fault(40, "unexpected character")),
        ):
            with self.subTest(source=source):
                self.assertEqual(raised_text(read_schema, source), expected)


class Scripts(Reading):
    def test_no_rules(self):
        for source in ("", " \n"):
            self.check(read_script, source, ())

    def test_each_rule(self):
        self.check(read_script, "drop when true or false;", (("drop", ("or", (TRUE, FALSE))),))
        self.check(read_script, "u when exists t;", (("when", "u", ("exists", "t")),))
        self.check(read_script, "u.c = t.a;", (("set", "u", "c", A),))
        self.check(read_script, "u.c = if true then t.a else t.b;", (("set", "u", "c", ("if", ((TRUE, A),), B)),))

    def test_several_rules_in_order(self):
        self.check(read_script, 'u . c="x";\ndrop when(true);u when not t.a=null;u.d=on;drop when false;',
                   (("set", "u", "c", ("cell", "x")), ("drop", TRUE), ("when", "u", ("not", ("=", A, NULL))),
                    ("set", "u", "d", ("cell", ("on",))), ("drop", FALSE)))

    def test_a_script_is_read_without_schemas(self):
        self.check(read_script, "u when exists w; u when false; u.c = null; u.c = p.q;",
                   (("when", "u", ("exists", "w")), ("when", "u", FALSE), ("set", "u", "c", NULL),
                    ("set", "u", "c", ("column", "p", "q"))))


class Faults(Reading):
    """Each row of the tables of [283]; the `@` stands before the faulty token, none means the end."""

    def test_faults_of_tokens_come_first(self):
        for read in (read_schema, read_condition, read_expression, read_script):
            self.fails(read, "; ; ; @A", "unexpected character")
            self.fails(read, '= = @"abc', "literal not closed")
            self.fails(read, '= = @"1234567890123"', "literal too long")
            self.fails(read, "table table @" + "a" * 21, "word too long")

    def test_expected_a_declaration(self):
        self.fails(read_schema, "", "expected a declaration")
        self.fails(read_schema, " \n ", "expected a declaration")
        for word in ("@t", "@column", "@;", "@}", '@"table"', "@exists u", "@drop", "@text", "@null"):
            self.fails(read_schema, word, "expected a declaration")
            self.fails(read_schema, "table t { a text; } " + word, "expected a declaration")
            self.fails(read_schema, "check true; " + word, "expected a declaration")

    def test_expected_table(self):
        self.fails(read_schema, "optional", "expected table")
        for word in ("@optional table", "@t", "@check true;", "@{", '@"table"'):
            self.fails(read_schema, "optional " + word, "expected table")

    def test_expected_a_table_name(self):
        self.fails(read_schema, "table", "expected a table name")
        self.fails(read_schema, "optional table", "expected a table name")
        self.fails(read_condition, "exists", "expected a table name")
        self.fails(read_condition, "exists @(u)", "expected a table name")
        self.fails(read_script, 'drop when exists @"u";', "expected a table name")
        for word in RESERVED:
            self.fails(read_schema, f"table @{word} {{", "expected a table name")
            self.fails(read_condition, f"exists @{word}", "expected a table name")

    def test_expected_a_column_name(self):
        self.fails(read_schema, "table t {", "expected a column name")
        self.fails(read_schema, "table t { @}", "expected a column name")
        self.fails(read_schema, "table t { a text;", "expected a column name")
        self.fails(read_schema, "table t { a text; @; }", "expected a column name")
        self.fails(read_schema, "table t { a text; @{ }", "expected a column name")
        for word in RESERVED:
            self.fails(read_schema, f"table t {{ @{word} text; }}", "expected a column name")
            self.fails(read_schema, f"table t {{ a text; @{word} text; }}", "expected a column name")
            self.fails(read_condition, f"t.@{word} = null", "expected a column name")
            self.fails(read_script, f"t.@{word} = null;", "expected a column name")
        self.fails(read_condition, "t.", "expected a column name")
        self.fails(read_condition, "t.@.a = null", "expected a column name")
        self.fails(read_condition, 'null = t.@"a"', "expected a column name")
        self.fails(read_condition, "t.a = t.@=", "expected a column name")
        self.fails(read_expression, "t.", "expected a column name")
        self.fails(read_expression, "if true then t.@then", "expected a column name")
        self.fails(read_expression, 'if true then null else t . @"a"', "expected a column name")
        self.fails(read_script, "t.", "expected a column name")
        self.fails(read_script, "t.@= null;", "expected a column name")
        self.fails(read_script, "t.a = u.@;", "expected a column name")

    def test_expected_a_kind(self):
        self.fails(read_schema, "table t { a", "expected a kind")
        for word in ("@;", "@null;", "@|", '@"x"', "@table", "@}", "@true;"):
            self.fails(read_schema, "table t { a " + word, "expected a kind")
        self.fails(read_schema, "table t { a text; b @;", "expected a kind")

    def test_expected_a_value(self):
        self.fails(read_schema, "table t { a x |", "expected a value")
        self.fails(read_schema, "table t { a x | y |", "expected a value")
        for word in ("@text;", "@null;", "@|", "@;", '@"x"', "@}"):
            self.fails(read_schema, "table t { a x | " + word, "expected a value")

    def test_expected_a_condition(self):
        for read, before in (
            (read_condition, ""), (read_condition, "not "), (read_condition, "("), (read_condition, "true and "),
            (read_condition, "true or "), (read_condition, "(true or "), (read_expression, "if "),
            (read_expression, "if true then t.a else if "), (read_schema, "check "), (read_script, "drop when "),
            (read_script, "t when "), (read_expression, "if not "), (read_script, "t.a = if "),
        ):
            self.fails(read, before, "expected a condition")
            for word in ("@)", "@;", "@=", "@!=", "@.", "@and", "@or", "@then", "@if", "@table", "@text", "@{", "@|"):
                self.fails(read, before + word, "expected a condition")

    def test_expected_an_operand(self):
        for sign in ("=", "!="):
            for before in ("t.a", "null", '"x"', "on", "true and t.a", "not null", "(t.a"):
                self.fails(read_condition, f"{before} {sign}", "expected an operand")
                for word in ("@)", "@;", "@=", "@!=", "@.", "@true", "@not", "@(", "@if", "@exists u", "@text"):
                    self.fails(read_condition, f"{before} {sign} {word}", "expected an operand")
        self.fails(read_expression, "if null = @then", "expected an operand")
        self.fails(read_schema, "check t.a =@;", "expected an operand")
        self.fails(read_script, "drop when t.a !=@;", "expected an operand")

    def test_expected_a_sign_of_comparison(self):
        for before in ("t.a", "null", '"x"', "on", "not t.a", "(t.a", "true or on"):
            self.fails(read_condition, before, "expected = or !=")
            for word in ("@)", "@;", "@and", "@or", "@true", "@x", '@"x"', "@null", "@then", "@("):
                self.fails(read_condition, f"{before} {word}", "expected = or !=")
        self.fails(read_condition, "t.a@.b", "expected = or !=")
        self.fails(read_condition, "null@.b", "expected = or !=")
        self.fails(read_condition, '"x"@.b', "expected = or !=")
        self.fails(read_schema, "check on@;", "expected = or !=")
        self.fails(read_script, "t when on@;", "expected = or !=")
        self.fails(read_expression, "if t.a @then", "expected = or !=")

    def test_expected_an_expression(self):
        for read, before in (
            (read_expression, ""), (read_expression, "if true then "), (read_expression, "if true then null else "),
            (read_script, "t.a = "), (read_script, "t.a = if true then "), (read_script, "t.a = if true then on else "),
        ):
            self.fails(read, before, "expected an expression")
            for word in ("@)", "@(", "@;", "@=", "@.", "@not", "@true", "@exists", "@then", "@else", "@text", "@{"):
                self.fails(read, before + word, "expected an expression")

    def test_expected_a_rule(self):
        for word in ("@;", "@.", "@=", '@"t"', "@(", "@when", "@if", "@table", "@null", "@true", "@not"):
            self.fails(read_script, word, "expected a rule")
            self.fails(read_script, "t.a = null; " + word, "expected a rule")
            self.fails(read_script, "drop when true;" + word, "expected a rule")

    def test_expected_a_point_or_when(self):
        self.fails(read_script, "t", "expected . or when")
        for word in ("@;", "@=", "@a", '@"a"', "@drop", "@if", "@!=", "@("):
            self.fails(read_script, "t " + word, "expected . or when")
            self.fails(read_script, "drop when true; t " + word, "expected . or when")

    def test_expected_an_opening_brace(self):
        self.fails(read_schema, "table t", "expected {")
        for word in ("@(", "@a text;", "@;", '@"{"', "@}"):
            self.fails(read_schema, "table t " + word, "expected {")
            self.fails(read_schema, "check true; optional table t " + word, "expected {")

    def test_expected_a_semicolon(self):
        for read, before in (
            (read_schema, "table t { a text"), (read_schema, "table t { a x"), (read_schema, "table t { a x | y"),
            (read_schema, "table t { a text null"), (read_schema, "table t { a x | y null"),
            (read_schema, "check true"), (read_schema, "check t.a = null"), (read_schema, "check (true)"),
            (read_script, "drop when true"), (read_script, "t when true and false"), (read_script, "t.a = null"),
            (read_script, "t.a = u.b"), (read_script, 't.a = "x"'), (read_script, "t.a = if true then on else off"),
        ):
            self.fails(read, before, "expected ;")
            for word in ("@)", "@}", "@{", "@x", "@true", "@not", '@";"', "@then", "@else", "@!="):
                self.fails(read, f"{before} {word}", "expected ;")
        self.fails(read_schema, "table t { a text @| x;", "expected ;")
        self.fails(read_schema, "table t { a text null @null;", "expected ;")
        self.fails(read_schema, "table t { a x null @| y;", "expected ;")
        self.fails(read_schema, "table t { a x @. y;", "expected ;")
        self.fails(read_script, "t.a = on @and true;", "expected ;")
        self.fails(read_script, "t.a = on @= off;", "expected ;")
        self.fails(read_script, "t.a = u.b@.c;", "expected ;")
        self.fails(read_script, "drop when t.a = u.b @= null;", "expected ;")

    def test_expected_a_closing_parenthesis(self):
        for before in ("(true", "not (true", "(true and (false)", "(t.a = null", "((true) or false", "(exists u"):
            self.fails(read_condition, before, "expected )")
            for word in ("@;", "@}", "@x", "@true", "@not", "@(", "@then", "@=", "@."):
                self.fails(read_condition, f"{before} {word}", "expected )")
        self.fails(read_expression, "if (true @then", "expected )")
        self.fails(read_schema, "check (true@;", "expected )")

    def test_expected_when(self):
        self.fails(read_script, "drop", "expected when")
        for word in ("@true;", "@;", "@.", "@drop", "@u when true;", '@"when"'):
            self.fails(read_script, "drop " + word, "expected when")

    def test_expected_an_equals_sign(self):
        self.fails(read_script, "t.a", "expected =")
        for word in ("@;", "@!= null;", "@.b", "@on;", "@when true;", "@if", '@"="'):
            self.fails(read_script, "t.a " + word, "expected =")

    def test_expected_then(self):
        for before in ("if true", "if t.a = null", "if (true)", "if true and false", "if true then on else if false"):
            self.fails(read_expression, before, "expected then")
            for word in ("@else", "@)", "@;", "@on", "@if", "@=", '@"then"', "@."):
                self.fails(read_expression, f"{before} {word}", "expected then")
        self.fails(read_script, "t.a = if true@;", "expected then")

    def test_expected_else(self):
        for before in ("if true then on", "if true then null", 'if true then ""', "if true then t.a",
                       "if true then if true then on else off", "if true then on else if false then off"):
            self.fails(read_expression, before, "expected else")
            for word in ("@then", "@)", "@;", "@on", "@if", "@=", '@"else"'):
                self.fails(read_expression, f"{before} {word}", "expected else")
        self.fails(read_expression, "if true then null@.a", "expected else")
        self.fails(read_script, "t.a = if true then on@;", "expected else")

    def test_expected_the_end(self):
        for source in ("true", "t.a = t.b", "(true)", "exists u", "true and false"):
            for word in ("@)", "@;", "@true", "@x", "@not", "@(", "@then", "@=", "@."):
                self.fails(read_condition, f"{source} {word}", "expected the end")
        for source in ("null", "on", "t.a", '"x"', "if true then on else off"):
            for word in ("@)", "@;", "@true", "@x", "@if", "@(", "@then", "@else", "@=", "@and"):
                self.fails(read_expression, f"{source} {word}", "expected the end")
        self.fails(read_condition, "t.a = u.b@.c", "expected the end")
        self.fails(read_expression, "null @.", "expected the end")

    def test_literals_with_the_letters_of_words_and_symbols_are_literals(self):
        self.fails(read_condition, 'true @"and" true', "expected the end")
        self.fails(read_condition, '"true"', "expected = or !=")
        self.fails(read_schema, '@"check" true;', "expected a declaration")
        self.fails(read_script, 't@"."a = null;', "expected . or when")


class Levels(Reading):
    """A whole condition or expression is at the level 0, and what would lead behind the level 10 is refused."""

    ROOMS = (
        (read_condition, "", ""), (read_schema, "table t { a text; } check ", ";"), (read_script, "drop when ", ";"),
        (read_script, "t when ", ";"),
    )

    def test_not_and_parentheses_in_conditions(self):
        for read, before, behind in self.ROOMS:
            for opening, closing in (("not ", ""), ("(", ")"), ("not(", ")")):
                levels = 2 if opening == "not(" else 1
                most = 10 // levels
                with self.subTest(before=before, opening=opening):
                    read(before + opening * most + "true" + closing * most + behind)
                for deeper in ("not", "("):
                    self.fails(read, before + opening * most + "@" + deeper, "nested too deeply")

    def test_every_part_has_the_level_of_the_whole(self):
        nine = "not " * 9
        for joint in (" and ", " or "):
            source = joint.join([nine + "not true"] * 3)
            self.assertEqual(len(read_condition(source)[1]), 3)
            self.fails(read_condition, source + joint + nine + "not @(true)", "nested too deeply")
            self.fails(read_condition, nine + f"(true{joint}@not true)", "nested too deeply")
            self.fails(read_condition, nine + f"(true{joint}@(true))", "nested too deeply")

    def test_behind_a_parenthesis_the_level_is_the_old_one(self):
        ten = "(" * 10 + "true" + ")" * 10
        self.assertEqual(read_condition(f"{ten} and {ten} or not not {ten[2:-2]}"),
                         ("or", (("and", (TRUE, TRUE)), ("not", ("not", TRUE)))))
        self.fails(read_condition, ten + " and " + "(" * 10 + "@(true", "nested too deeply")

    def test_the_condition_behind_if_is_one_level_deeper(self):
        self.assertEqual(read_expression("if " + "not " * 9 + "true then on else off")[0], "if")
        self.fails(read_expression, "if " + "not " * 9 + "@not true then on else off", "nested too deeply")
        self.fails(read_expression, "if " + "(" * 9 + "@(true", "nested too deeply")
        self.fails(read_script, "t.a = if " + "not " * 9 + "@( true", "nested too deeply")

    def test_the_expression_behind_then_is_one_level_deeper(self):
        for read, before, behind in ((read_expression, "", ""), (read_script, "t.a = ", ";")):
            read(before + "if true then " * 10 + "on" + " else off" * 10 + behind)
            self.fails(read, before + "if true then " * 10 + "@if true then on", "nested too deeply")

    def test_the_condition_of_the_innermost_if(self):
        nine = "if true then " * 9
        self.assertEqual(read_expression(nine + "if true then on else off" + " else off" * 9)[0], "if")
        self.fails(read_expression, nine + "if @not true then", "nested too deeply")
        self.fails(read_expression, nine + "if true and @(true) then", "nested too deeply")
        eight = "if true then " * 8
        self.assertEqual(read_expression(eight + "if not true then on else off" + " else off" * 8)[0], "if")

    def test_else_stays_at_its_level(self):
        self.assertEqual(len(read_expression("if true then on else " * 30 + "off")[1]), 30)
        nine = "if true then " * 9
        inner = "if true then on else if true then on else off"
        self.assertEqual(read_expression(nine + inner + " else off" * 9)[0], "if")
        self.fails(read_expression, nine + "if true then on else if true then @if", "nested too deeply")
        self.fails(read_expression, nine + "if true then on else if @not", "nested too deeply")

    def test_behind_else_of_an_inner_if(self):
        source = "if true then " * 10 + "on" + " else if true then on else off" * 10
        self.assertEqual(read_expression(source)[0], "if")
        self.fails(read_expression, "if true then " * 10 + "on else if true then @if", "nested too deeply")

    def test_each_check_and_rule_begins_at_the_level_0(self):
        ten = "not " * 10 + "true"
        read_schema(f"table t {{ a text; }} check {ten}; check {ten};")
        read_script(f"drop when {ten}; t when {ten}; t.a = {'if true then ' * 10}on{' else on' * 10};")

    def test_at_the_level_10_where_it_would_not_be_possible_anyhow(self):
        ten = "not " * 10
        self.fails(read_condition, ten + "@if true", "expected a condition")
        self.fails(read_condition, ten + "true @not true", "expected the end")
        self.fails(read_condition, ten + "true @(true)", "expected the end")
        self.fails(read_condition, ten + "t.a = @not", "expected an operand")
        self.fails(read_condition, ten + "t.a = @(true)", "expected an operand")
        self.fails(read_condition, ten + "t.a @(", "expected = or !=")
        self.fails(read_condition, ten + "exists @not", "expected a table name")
        self.fails(read_condition, ten + "t.@if", "expected a column name")
        self.fails(read_condition, "(" * 10 + "true @not", "expected )")
        branches = "if true then " * 10
        self.fails(read_expression, branches + "@not true", "expected an expression")
        self.fails(read_expression, branches + "@(on)", "expected an expression")
        self.fails(read_expression, branches + "on @if", "expected else")

    def test_operands_and_the_rest_may_stand_at_the_level_10(self):
        ten = "(" * 10
        for inside in ("true", "false", "exists u", "t.a = null", 'on != "x"', "true and false or true"):
            read_condition(ten + inside + ")" * 10)


if __name__ == "__main__":
    unittest.main()
