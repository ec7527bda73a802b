"""What can be computed from a migrated database, and how."""

from migraproof.cases import cases, check_many
from migraproof.errors import SchemasDiffer
from migraproof.migrations import Effect, check_results, constants_of_both, identity, reduced
from migraproof.records import canonical, free_texts, renamed, renaming
from migraproof.schemas import is_valid
from migraproof.texts import sample_texts


def recover(migration, query):
    """The recovered migration and None, or None and the collision."""
    check_same_source(migration, query)
    check_results(migration)
    source, middle = migration[0], migration[1]
    target = query[1]
    constants = constants_of_both(migration, query)
    check_many((source, middle, target), constants)
    rows = images_and_answers(migration, query)
    collision = collision_among(rows, constants)
    if collision is not None:
        return (None, collision)
    answers = {}
    for _, image, answer in rows:
        if image is not None:
            case = canonical(image, constants)
            answers.setdefault(case, carried(answer, image, case, constants))
    results = tuple([answers.get(case) for case in cases(middle, constants)])
    return (reduced((middle, target, constants, results)), None)


def recover_record(migration):
    """The same with the query that changes nothing."""
    return recover(migration, identity(migration[0]))


def is_collision(migration, query, first, second):
    """Whether the two records, or the first one and None, have equal images and different answers."""
    check_same_source(migration, query)
    for record in (first, second):
        if record is not None and not is_valid(migration[0], record):
            return False
    image, answer = Effect(migration), Effect(query)
    return (result_or_none(image, first) == result_or_none(image, second)
            and result_or_none(answer, first) != result_or_none(answer, second))


def check_same_source(migration, query):
    """Raises SchemasDiffer unless both have the same source."""
    if migration[0] != query[0]:
        raise SchemasDiffer()


def result_or_none(effect, record):
    """The result of the record, None for None."""
    return None if record is None else effect.result_of(record)


def images_and_answers(migration, query):
    """The triples of a case for the constants of both, its image and its answer, in the order of the cases."""
    image, answer = Effect(migration), Effect(query)
    constants = constants_of_both(migration, query)
    return [(case, image.result_of(case), answer.result_of(case)) for case in cases(migration[0], constants)]


def collision_among(rows, constants):
    """The first collision that is found among cases with their images and answers, None if there is none."""
    first_rows = {}
    for row in rows:
        _, image, _ = row
        collision = collision_alone(row, constants)
        if collision is None and image is not None:
            # As long as nothing was found, the cases with similar images have corresponding answers, so the first one
            # speaks for all of them.
            earlier = first_rows.setdefault(canonical(image, constants), row)
            collision = collision_with(earlier, row, constants)
        if collision is not None:
            return collision
    return None


def collision_alone(row, constants):
    """The collision that the case shows without an earlier one, None if there is none."""
    case, image, answer = row
    if answer is None:
        return None
    if image is None:
        return (case, None)
    for text in texts_without(free_texts(case, constants), image, constants):
        if text in free_texts(answer, constants):
            return (case, renamed(case, tuple(zip((text,), new_texts(1, case, constants)))))
    return None


def collision_with(earlier, row, constants):
    """The collision of the case with an earlier one that has a similar image, None if there is none."""
    earlier_case, earlier_image, earlier_answer = earlier
    case, image, answer = row
    if carried(earlier_answer, earlier_image, image, constants) == answer:
        return None
    others = texts_without(free_texts(earlier_case, constants), earlier_image, constants)
    news = tuple(zip(others, new_texts(len(others), case, constants)))
    return (renamed(earlier_case, (*renaming(earlier_image, image, constants), *news)), case)


def carried(answer, image, similar_image, constants):
    """The answer with the free texts of the image replaced by those of a similar image; None stays None."""
    if answer is None:
        return None
    return renamed(answer, renaming(image, similar_image, constants))


def texts_without(texts, image, constants):
    """Those of the texts that are not free texts of the image, in order."""
    shown = free_texts(image, constants)
    return [text for text in texts if text not in shown]


def new_texts(many, case, constants):
    """The first so many sample texts that the case does not contain."""
    return sample_texts(many, but=(*constants, *free_texts(case, constants)))
