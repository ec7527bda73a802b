"""How many valid records a schema has: by free texts, over a set of texts, and for all large numbers of texts."""

from migraproof.cases import MOST_CANDIDATES, cases
from migraproof.counting import cells_for
from migraproof.errors import TooManyCases
from migraproof.polynomials import added, compare, falling, multiplied, value_at
from migraproof.records import free_texts
from migraproof.schemas import constants_of, is_valid
from migraproof.texts import ascending


def counts(schema, constants):
    """The numbers of cases with 0, 1, ... free texts, without zeros at the end."""
    found = []
    for case in cases(schema, constants):
        many = len(free_texts(case, constants))
        found.extend([0] * (many + 1 - len(found)))
        found[many] += 1
    return tuple(found)


def from_counts(numbers, many):
    """The polynomial that the counts for so many constants stand for."""
    polynomial = ()
    for factors, number in enumerate(numbers):
        polynomial = added(polynomial, multiplied((number,), falling(many, factors)))
    return polynomial


def capacity(schema):
    """The polynomial for the number of the valid records over n texts."""
    constants = constants_of(schema)
    return from_counts(counts(schema, constants), len(constants))


def records_over(schema, texts):
    """All valid records whose texts are among these, in order."""
    tables = schema[0]
    count = 1
    for table in tables:
        count = count * many_places(table, texts)
    if count > MOST_CANDIDATES:
        raise TooManyCases(count)
    if count == 0:
        return ()
    records = [()]
    for table in tables:
        places = places_over(table, texts)
        records = [(*record, place) for record in records for place in places]
    return tuple([record for record in records if is_valid(schema, record)])


def excess(source, target):
    """None if the capacity of the source is at most that of the target, otherwise where it begins to be greater."""
    many, few = capacity(source), capacity(target)
    start, sign = compare(many, few)
    if sign != 1:
        return None
    constants = ascending((*constants_of(source), *constants_of(target)))
    n = max(start, len(constants))
    return (n, value_at(many, n), value_at(few, n))


def many_places(table, texts):
    """How many rows over the texts the table can have; no row counts too, if it is optional."""
    _, is_optional, columns = table
    many = 1
    for column in columns:
        many = many * len(cells_for(column, texts))
    return many + 1 if is_optional else many


def places_over(table, texts):
    """None, if the table is optional, and the rows over the texts that it can have."""
    _, is_optional, columns = table
    choices = [cells_for(column, texts) for column in columns]
    # A column without any choice may stand behind columns with very many.
    rows = [()] if all(choices) else []
    for cells in choices:
        rows = [(*row, cell) for row in rows for cell in cells]
    return [None, *rows] if is_optional else rows
