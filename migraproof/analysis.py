"""What migrations lose, whether two of them have the same effect, and inverses."""

from migraproof.cases import cases, check_many
from migraproof.errors import SchemasDiffer
from migraproof.migrations import constants_of_both, examples, invalid_place
from migraproof.records import canonical
from migraproof.recovery import collision_among, images_and_answers, recover_record


def compare_migrations(first, second):
    """None if both have the same effect, otherwise the first case on which they differ, and its two results."""
    if first[:2] != second[:2]:
        raise SchemasDiffer()
    check_many(first[:2], constants_of_both(first, second))
    for row in images_and_answers(first, second):
        if row[1] != row[2]:
            return row
    return None


def analyze(migration):
    """The evidence about the migration: an invalid result, a collision, and what is not reached."""
    rows = [(case, given, case) for case, given in examples(migration)]
    return (first_invalid(migration), collision_among(rows, migration[2]), first_unreached(migration))


def is_lossless(migration):
    """Whether the migration has valid results and loses nothing."""
    invalid, collision, _ = analyze(migration)
    return invalid is None and collision is None


def inverse(migration):
    """The inverse of the migration, None if there is none."""
    if analyze(migration) != (None, None, None):
        return None
    return recover_record(migration)[0]


def first_invalid(migration):
    """The first example whose result is neither None nor valid, None if there is none."""
    place = invalid_place(migration)
    return None if place is None else examples(migration)[place]


def first_unreached(migration):
    """The first case of the target that is not similar to any result, None if there is none."""
    _, target, constants, results = migration
    reached = {canonical(given, constants): True for given in results if given is not None}
    for case in cases(target, constants):
        if case not in reached:
            return case
    return None
