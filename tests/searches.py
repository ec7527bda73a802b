"""Plain searches by the definitions of the document, for the tests."""

import itertools

from migraproof.cases import cases
from migraproof.migrations import result
from migraproof.records import canonical, renamed
from samples import results_of, texts_in, valid_over


def first_collision(migration, query):
    """The collision as [201] tells it, with all earlier cases tried."""
    constants = tuple(sorted({*migration[2], *query[2]}))
    earlier = []
    for r in cases(migration[0], constants):
        t, u = result(migration, r), result(query, r)

        def free(record):
            return [name for name in texts_in(record) if name not in constants]

        samples = [f"v{number}" for number in range(1, 60) if f"v{number}" not in (*constants, *texts_in(r))]
        if t is None and u is not None:
            return (r, None)
        if t is not None and u is not None:
            for name in free(r):
                if name in texts_in(u) and name not in texts_in(t):
                    return (r, renamed(r, ((name, samples[0]),)))
        if t is not None:
            for e, image, answer in earlier:
                if image is None or canonical(image, constants) != canonical(t, constants):
                    continue
                pairs = tuple(zip(free(image), free(t)))
                if (answer and renamed(answer, pairs)) != u:
                    rest = [name for name in free(e) if name not in free(image)]
                    return (renamed(e, (*pairs, *zip(rest, samples))), r)
        earlier.append((r, t, u))
    return None


def collides(migration, query, first, second):
    """Whether the records, or the first one and None, are a collision, by its definition."""
    image, answer = [[None if record is None else result(function, record) for record in (first, second)]
                     for function in (migration, query)]
    return image[0] == image[1] and answer[0] != answer[1]


def some_collision(migration, query, texts):
    """Whether there is any collision of records with these texts."""
    records = [None, *valid_over(migration[0], texts)]
    return any(collides(migration, query, first, second) for first, second in itertools.combinations(records, 2)
               if first is not None) or any(collides(migration, query, record, None) for record in records[1:])


def joined_classes(first, second, texts):
    """A dict with a number for each valid record with these texts, and for None: the same one for joined ones.

    Only chains with these texts are found, so there must be some more of them than the records have cells.
    """
    records = [None, *valid_over(first[0], texts)]
    above = {record: record for record in records}

    def top(record):
        while above[record] != record:
            record = above[record]
        return record

    for migration in (first, second):
        leaders = {}
        for record, shown in zip(records, [None, *results_of(migration, records[1:])]):
            above[top(record)] = top(leaders.setdefault(shown, record))
    numbers = {}
    return {record: numbers.setdefault(top(record), len(numbers)) for record in records}
