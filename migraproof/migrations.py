"""Migrations: how they are made and reduced, and what they do with records and databases."""

from migraproof.cases import cases, fixture
from migraproof.errors import InvalidRecord, InvalidResults, UnknownText, WrongMany, WrongResult
from migraproof.records import exchanged, free_texts, record_with_new_texts, texts_beside
from migraproof.schemas import constants_of, has_shape, is_valid
from migraproof.scripts import applied, script_texts
from migraproof.texts import ascending, sample_texts


def compiled(source, target, script):
    """The migration of the script."""
    constants, records = fixture(source, target, own=script_texts(script))
    results = tuple([applied(source, target, script, record) for record in records])
    return reduced((source, target, constants, results))


def from_results(source, target, results, *, own=()):
    """The migration with these results for the records of the fixture with the own texts."""
    constants, records = fixture(source, target, own=own)
    if len(results) != len(records):
        raise WrongMany(len(records))
    for place, record in enumerate(records):
        if results[place] is not None:
            check_result(target, constants, record, results[place], place)
    return reduced((source, target, constants, results))


def identity(schema):
    """The migration from the schema to itself that changes nothing."""
    constants = constants_of(schema)
    return (schema, schema, constants, cases(schema, constants))


def reduced(migration):
    """The migration with the same effect whose constants are those that are needed."""
    source, target, constants, _ = migration
    fixed = (*constants_of(source), *constants_of(target))
    effect = Effect(migration)
    needed = tuple([text for text in constants if text in fixed or effect.use_of(text) is not None])
    return (source, target, needed, tuple([effect.result_of(case) for case in cases(source, needed)]))


def first_use(migration, text):
    """The first case and its first partner that show that the text is needed, None if it is not."""
    return Effect(migration).use_of(text)


def examples(migration):
    """The pairs of a case and its result, in the order of the cases."""
    source, _, constants, results = migration
    return tuple(zip(cases(source, constants), results))


def result(migration, record):
    """The result of the record."""
    if not is_valid(migration[0], record):
        raise InvalidRecord(None)
    return Effect(migration).result_of(record)


def migrated(migration, database):
    """The database of the results, without the records that are dropped."""
    effect = Effect(migration)
    found = []
    for key, record in database:
        if not is_valid(migration[0], record):
            raise InvalidRecord(key)
        found.append((key, effect.result_of(record)))
    return tuple([pair for pair in found if pair[1] is not None])


class Effect:
    """The effect of a migration, which need not be reduced."""

    def __init__(self, migration):
        source, _, constants, _ = migration
        self.fixed = {text: True for text in constants}
        # One more than the free texts that a record of the source can have.
        self.samples = sample_texts(1 + sum([len(columns) for _, _, columns in source[0]]), but=constants)
        self.results = dict(examples(migration))

    def result_of(self, record):
        """The result of a valid record."""
        texts = texts_beside(record, self.fixed)
        given = self.results[record_with_new_texts(record, dict(zip(texts, self.samples)))]
        if given is None:
            return None
        return record_with_new_texts(given, dict(zip(self.samples, texts)))

    def use_of(self, text):
        """The first case and its first partner that show that the constant is needed, None if it is not."""
        for case, given in self.results.items():
            # The free texts of a case are the first sample texts, so the one behind them is the first it lacks.
            for partner in self.samples[:len(texts_beside(case, self.fixed)) + 1]:
                exchanged_result = None if given is None else exchanged(given, text, partner)
                if self.result_of(exchanged(case, text, partner)) != exchanged_result:
                    return (case, partner)
        return None


def constants_of_both(first, second):
    """The constants of both migrations together."""
    return ascending((*first[2], *second[2]))


def check_result(target, constants, record, given, place):
    """Raises what is wrong with the result that is given for the record with the number `place` of a fixture."""
    if not has_shape(target, given):
        raise WrongResult(place)
    known = free_texts(record, constants)
    for text in free_texts(given, constants):
        if text not in known:
            raise UnknownText(place, text)


def check_results(migration):
    """Raises InvalidResults for the first case whose result is neither None nor valid."""
    place = invalid_place(migration)
    if place is not None:
        raise InvalidResults(place)


def invalid_place(migration):
    """The number of the first case whose result is neither None nor valid, None if there is none."""
    _, target, _, results = migration
    for place, given in enumerate(results):
        if given is not None and not is_valid(target, given):
            return place
    return None
