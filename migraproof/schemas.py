"""Schemas: which of them are sound, and which records they take."""

from migraproof.conditions import holds
from migraproof.errors import DuplicateName, KindMismatch, UnknownName
from migraproof.texts import ascending
from migraproof.trees import is_comparison, texts_of

# The reasons that keep a record from having the form of a schema, and its shape.
AGAINST_FORM = ("places", "cells", "kind")
AGAINST_SHAPE = ("places", "cells", "kind", "no row", "no rows")


def check_condition(tables, condition):
    """Raises what is wrong with the condition for the tables, from left to right."""
    head = condition[0]
    if head == "exists":
        table_called(tables, condition[1])
    elif is_comparison(condition):
        check_comparison(tables, condition)
    elif head == "not":
        check_condition(tables, condition[1])
    elif head in ("and", "or"):
        for part in condition[1]:
            check_condition(tables, part)


def check_schema(schema):
    """Raises what is wrong with the schema: table by table, then check by check."""
    tables, checks = schema
    earlier = set()
    for name, _, columns in tables:
        if name in earlier:
            raise DuplicateName(name)
        earlier.add(name)
        check_columns(name, columns)
    for condition in checks:
        check_condition(tables, condition)


def constants_of(schema):
    """The texts of the checks, ascending."""
    found = []
    for condition in schema[1]:
        found.extend(texts_of(condition))
    return ascending(tuple(found))


def has_form(schema, record):
    """Whether the record has the places, rows and kinds of cells of the schema."""
    return not has_reason_among(misfits(schema, record), AGAINST_FORM)


def has_shape(schema, record):
    """Whether the record has the form of the schema and the rows that it must have."""
    return not has_reason_among(misfits(schema, record), AGAINST_SHAPE)


def fits(schema, record):
    """Whether the record has the shape of the schema, and no null or value where it may not stand."""
    return not misfits(schema, record)


def is_valid(schema, record):
    """Whether the record fits the schema and all checks are true."""
    return not what_is_wrong(schema, record)


def what_is_wrong(schema, record):
    """The reasons why the record is not valid, in order."""
    tables, checks = schema
    reasons = misfits(schema, record)
    if reasons:
        return reasons
    failing = [number for number, condition in enumerate(checks) if not holds(tables, condition, record)]
    return tuple([("check", number) for number in failing])


def check_columns(table, columns):
    """Raises DuplicateName for the first column, or value of a column, that is declared twice."""
    earlier = set()
    for name, kind, _ in columns:
        if name in earlier:
            raise DuplicateName(f"{table}.{name}")
        earlier.add(name)
        if kind != "text":
            check_values(f"{table}.{name}", kind)


def check_values(column, values):
    """Raises DuplicateName for the first value that is declared twice."""
    earlier = set()
    for name in values:
        if name in earlier:
            raise DuplicateName(f"{column} {name}")
        earlier.add(name)


def check_comparison(tables, comparison):
    """Raises UnknownName for the first unknown operand, then KindMismatch."""
    first = operand_kind(tables, comparison[1])
    second = operand_kind(tables, comparison[2])
    if first is not None and second is not None and first != second:
        raise KindMismatch(comparison)


def operand_kind(tables, operand):
    """The kind of the operand, "text" or "value", None for null; raises UnknownName."""
    if operand[0] == "column":
        kind = column_called(tables, operand[1], operand[2])[1]
        return "text" if kind == "text" else "value"
    return cell_kind(operand[1])


def cell_kind(cell):
    """The kind of the cell, "text" or "value", None for null."""
    if cell is None:
        return None
    return "text" if isinstance(cell, str) else "value"


def table_called(tables, name):
    """The table with this name; raises UnknownName."""
    for table in tables:
        if table[0] == name:
            return table
    raise UnknownName(name)


def column_called(tables, table, name):
    """The column with this name of the table with that name; raises UnknownName."""
    for column in table_called(tables, table)[2]:
        if column[0] == name:
            return column
    raise UnknownName(f"{table}.{name}")


def has_reason_among(reasons, words):
    """Whether one of the reasons begins with one of the words."""
    return any(reason[0] in words for reason in reasons)


def misfits(schema, record):
    """The reasons why the record does not fit the schema, in order; its checks play no part."""
    tables = schema[0]
    if len(record) != len(tables):
        return (("places",),)
    reasons = []
    for table, row in zip(tables, record):
        reasons.extend(row_misfits(table, row))
    if not reasons and all(row is None for row in record):
        return (("no rows",),)
    return tuple(reasons)


def row_misfits(table, row):
    """The reasons why the row, or no row, does not fit the table, in order."""
    name, is_optional, columns = table
    if row is None:
        return [] if is_optional else [("no row", name)]
    if len(row) != len(columns):
        return [("cells", name)]
    reasons = []
    for column, cell in zip(columns, row):
        word = cell_misfit(column, cell)
        if word is not None:
            reasons.append((word, name, column[0]))
    return reasons


def cell_misfit(column, cell):
    """The word for why the cell does not fit the column, None if it does."""
    _, kind, is_nullable = column
    if cell is None:
        return None if is_nullable else "null"
    if (kind == "text") != isinstance(cell, str):
        return "kind"
    if kind != "text" and cell[0] not in kind:
        return "unknown value"
    return None
