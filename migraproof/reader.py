"""Reading schemas, conditions, expressions and scripts."""

from migraproof.errors import TextError
from migraproof.schemas import check_schema
from migraproof.tokens import tokens_of

RESERVED = ("table", "optional", "text", "null", "check", "and", "or", "not", "exists", "true", "false", "if", "then",
            "else", "drop", "when")
LEVEL_TOO_DEEP = 10


def read_schema(source):
    """The schema that the source stands for."""
    cursor = Cursor(source)
    tables = []
    checks = []
    take_declaration(cursor, tables, checks)
    while not cursor.is_done():
        take_declaration(cursor, tables, checks)
    if not tables:
        raise TextError(len(source), "no tables")
    schema = (tuple(tables), tuple(checks))
    check_schema(schema)
    return schema


def read_condition(source):
    """The condition that the source stands for."""
    cursor = Cursor(source)
    condition = take_condition(cursor, 0)
    check_end(cursor)
    return condition


def read_expression(source):
    """The expression that the source stands for."""
    cursor = Cursor(source)
    expression = take_expression(cursor, 0)
    check_end(cursor)
    return expression


def read_script(source):
    """The script that the source stands for."""
    cursor = Cursor(source)
    rules = []
    while not cursor.is_done():
        rules.append(take_rule(cursor))
    return tuple(rules)


class Cursor:
    """The tokens of a source, and how many of them were taken."""

    def __init__(self, source):
        self.tokens = tokens_of(source)
        self.end = len(source)
        self.taken = 0

    def is_done(self):
        """Whether all tokens were taken."""
        return self.taken == len(self.tokens)

    def here(self):
        """The place of the next token, or the end of the source."""
        if self.is_done():
            return self.end
        return self.tokens[self.taken][2]

    def sees(self, mark):
        """Whether the next token is this word or symbol."""
        if self.is_done():
            return False
        kind, text, _ = self.tokens[self.taken]
        return kind != "literal" and text == mark

    def passes(self, mark):
        """Takes the next token if it is this word or symbol; tells whether it is."""
        if not self.sees(mark):
            return False
        self.taken += 1
        return True

    def require(self, mark):
        """Takes the next token, which must be this word or symbol."""
        if not self.passes(mark):
            raise TextError(self.here(), f"expected {mark}")

    def take_name(self, reason):
        """Takes the next token, which must be a name, and returns it."""
        if not self.is_done():
            kind, text, _ = self.tokens[self.taken]
            if kind == "word" and text not in RESERVED:
                self.taken += 1
                return text
        raise TextError(self.here(), reason)

    def take_literal(self):
        """Takes the next token and returns its text if it is a literal; otherwise None."""
        if self.is_done() or self.tokens[self.taken][0] != "literal":
            return None
        self.taken += 1
        return self.tokens[self.taken - 1][1]


def check_end(cursor):
    """Raises TextError unless all tokens were taken."""
    if not cursor.is_done():
        raise TextError(cursor.here(), "expected the end")


def check_level(cursor, level):
    """Raises TextError if what would lead one level deeper stands at the level."""
    if level >= LEVEL_TOO_DEEP:
        raise TextError(cursor.here(), "nested too deeply")


def take_declaration(cursor, tables, checks):
    """Takes a table or a check and appends it to its list."""
    if cursor.passes("check"):
        checks.append(take_condition(cursor, 0))
        cursor.require(";")
    elif cursor.passes("optional"):
        cursor.require("table")
        tables.append(take_table(cursor, True))
    elif cursor.passes("table"):
        tables.append(take_table(cursor, False))
    else:
        raise TextError(cursor.here(), "expected a declaration")


def take_table(cursor, is_optional):
    """Takes a table from its name on."""
    name = cursor.take_name("expected a table name")
    cursor.require("{")
    columns = [take_column(cursor)]
    while not cursor.passes("}"):
        columns.append(take_column(cursor))
    return (name, is_optional, tuple(columns))


def take_column(cursor):
    """Takes a column."""
    name = cursor.take_name("expected a column name")
    kind = take_kind(cursor)
    is_nullable = cursor.passes("null")
    cursor.require(";")
    return (name, kind, is_nullable)


def take_kind(cursor):
    """Takes the kind of a column: text, or the names of its values."""
    if cursor.passes("text"):
        return "text"
    names = [cursor.take_name("expected a kind")]
    while cursor.passes("|"):
        names.append(cursor.take_name("expected a value"))
    return tuple(names)


def take_condition(cursor, level):
    """Takes a condition at the level."""
    parts = [take_conjunction(cursor, level)]
    while cursor.passes("or"):
        parts.append(take_conjunction(cursor, level))
    return joined("or", parts)


def take_conjunction(cursor, level):
    """Takes a conjunction at the level."""
    parts = [take_negation(cursor, level)]
    while cursor.passes("and"):
        parts.append(take_negation(cursor, level))
    return joined("and", parts)


def joined(word, parts):
    """The condition that the parts are, joined by the word; a part alone stands for itself."""
    return parts[0] if len(parts) == 1 else (word, tuple(parts))


def take_negation(cursor, level):
    """Takes a negation of the grammar, that is a condition without "and" and "or" outside of parentheses."""
    if cursor.sees("not") or cursor.sees("("):
        check_level(cursor, level)
    if cursor.passes("not"):
        return ("not", take_negation(cursor, level + 1))
    if cursor.passes("("):
        condition = take_condition(cursor, level + 1)
        cursor.require(")")
        return condition
    if cursor.passes("true"):
        return ("true",)
    if cursor.passes("false"):
        return ("false",)
    if cursor.passes("exists"):
        return ("exists", cursor.take_name("expected a table name"))
    return take_comparison(cursor)


def take_comparison(cursor):
    """Takes a comparison."""
    first = take_operand(cursor, "expected a condition")
    for sign in ("=", "!="):
        if cursor.passes(sign):
            return (sign, first, take_operand(cursor, "expected an operand"))
    raise TextError(cursor.here(), "expected = or !=")


def take_operand(cursor, reason):
    """Takes an operand; the reason is that of the error if none begins here."""
    if cursor.passes("null"):
        return ("cell", None)
    text = cursor.take_literal()
    if text is not None:
        return ("cell", text)
    name = cursor.take_name(reason)
    if cursor.passes("."):
        return ("column", name, cursor.take_name("expected a column name"))
    return ("cell", (name,))


def take_expression(cursor, level):
    """Takes an expression at the level."""
    branches = []
    while cursor.sees("if"):
        check_level(cursor, level)
        branches.append(take_branch(cursor, level))
    operand = take_operand(cursor, "expected an expression")
    if not branches:
        return operand
    return ("if", tuple(branches), operand)


def take_branch(cursor, level):
    """Takes a branch from "if" at the level up to "else"."""
    cursor.require("if")
    condition = take_condition(cursor, level + 1)
    cursor.require("then")
    expression = take_expression(cursor, level + 1)
    cursor.require("else")
    return (condition, expression)


def take_rule(cursor):
    """Takes a rule of a script."""
    if cursor.passes("drop"):
        cursor.require("when")
        return ("drop", take_last_condition(cursor))
    table = cursor.take_name("expected a rule")
    if cursor.passes("when"):
        return ("when", table, take_last_condition(cursor))
    if not cursor.passes("."):
        raise TextError(cursor.here(), "expected . or when")
    column = cursor.take_name("expected a column name")
    cursor.require("=")
    expression = take_expression(cursor, 0)
    cursor.require(";")
    return ("set", table, column, expression)


def take_last_condition(cursor):
    """Takes the condition at the end of a rule, and the semicolon."""
    condition = take_condition(cursor, 0)
    cursor.require(";")
    return condition
