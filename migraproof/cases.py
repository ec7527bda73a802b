"""Candidates and cases of schemas, and fixtures."""

from migraproof.counting import cells_for, many_candidates
from migraproof.errors import TooManyCases
from migraproof.schemas import constants_of, is_valid
from migraproof.texts import ascending, sample_texts

MOST_CANDIDATES = 300


def each_candidate(schema, constants):
    """Yields the candidates in order."""
    check_many((schema,), constants)
    for record, _ in candidates_with_uses(schema, constants):
        yield record


def cases(schema, constants):
    """The valid candidates, in order."""
    return tuple([record for record in each_candidate(schema, constants) if is_valid(schema, record)])


def fixture(source, target, *, own=()):
    """The constants of both schemas with the own texts, and the cases of the source for them."""
    constants = ascending((*constants_of(source), *constants_of(target), *own))
    check_many((source, target), constants)
    return (constants, cases(source, constants))


def check_many(schemas, constants):
    """Raises TooManyCases for the first of the schemas that has too many candidates for the constants."""
    for schema in schemas:
        count = many_candidates(schema, len(constants))
        if count > MOST_CANDIDATES:
            raise TooManyCases(count)


def candidates_with_uses(schema, constants):
    """The candidates in order, each with the number of sample texts that it uses.

    Every choice has at least one way on, so there are never more beginnings of candidates than candidates.
    """
    tables = schema[0]
    samples = sample_texts(sum([len(columns) for _, _, columns in tables]), but=constants)
    found = [((), 0)]
    for table in tables:
        found = [((*record, row), later) for record, used in found
                 for row, later in rows_with_uses(table, constants, samples, used)]
    return found


def rows_with_uses(table, constants, samples, used):
    """What the table can have if so many sample texts are used before it: None or a row, and how many then are."""
    _, is_optional, columns = table
    rows = [((), used)]
    for column in columns:
        rows = [((*row, cell), later) for row, before in rows
                for cell, later in cells_with_uses(column, constants, samples, before)]
    return [(None, used), *rows] if is_optional else rows


def cells_with_uses(column, constants, samples, used):
    """The cells that the column can have if so many sample texts are used before it, and how many then are."""
    cells = cells_for(column, (*constants, *samples[:used + 1]))
    return [(cell, used + 1 if cell == samples[used] else used) for cell in cells]
