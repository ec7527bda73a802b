"""Whether records are sufficient as test data."""

from migraproof.cases import fixture
from migraproof.migrations import reduced
from migraproof.records import canonical


def undetected(source, target, records, *, own=()):
    """None if the records are sufficient, otherwise two migrations that they do not tell apart, and a record that does.

    The first of the two drops every record, the second one all but those that are similar to the record.
    """
    constants, cases = fixture(source, target, own=own)
    tested = {canonical(record, constants): True for record in records}
    nulls = tuple([(None,) * len(columns) for _, _, columns in target[0]])
    for number, case in enumerate(cases):
        if case not in tested:
            drops = [None] * len(cases)
            results = (*drops[:number], nulls, *drops[number + 1:])
            return (reduced((source, target, constants, tuple(drops))),
                    reduced((source, target, constants, results)), case)
    return None
