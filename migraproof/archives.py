"""Rows of archives, and migrations with the smallest archive with which they lose nothing."""

from migraproof.cases import MOST_CANDIDATES, check_many
from migraproof.errors import TooManyCases
from migraproof.fibres import Grouping, archive_size
from migraproof.migrations import reduced
from migraproof.records import row_with_new_texts
from migraproof.texts import sample_texts, with_spare_texts


def text_rows(texts, columns, many):
    """The rows of so many columns with exactly so many texts beside these, the first sample texts for these."""
    count = many_text_rows(len(texts), columns, many)
    if count > MOST_CANDIDATES:
        raise TooManyCases(count)
    samples = sample_texts(many, but=texts)
    rows = [((), 0)]
    for behind in reversed(range(columns)):
        # Each beginning that stays has a row, so there are never more beginnings than rows.
        rows = [((*row, text), later) for row, used in rows for text, later in texts_with_uses(texts, samples, used)
                if later + behind >= many]
    return tuple([row for row, _ in rows])


def many_text_rows(length, columns, many):
    """The number of the rows of so many columns with exactly so many texts beside `length` other ones."""
    ways = [1] + [0] * columns
    for _ in range(columns):
        ways = [(length + used) * number + (ways[used - 1] if used else 0) for used, number in enumerate(ways)]
    return ways[many]


def archive(migration):
    """The migration with the smallest archive with which it loses nothing."""
    size = archive_size(migration)
    if size == (0, 1):
        return migration
    source, target = migration[0], migration[1]
    grouping = roomy_grouping(migration, size)
    extended = extended_target(target, size)
    check_many((extended,), grouping.constants)
    results = list(grouping.results)
    for group in grouping.groups:
        for numbers in grouping.by_hidden(group):
            for place, number in enumerate(numbers):
                row = archive_row(grouping, number, place, size)
                results[number] = (*results[number], row)
    return reduced((source, extended, grouping.constants, tuple(results)))


def texts_with_uses(texts, samples, used):
    """The texts that a column can have if so many samples are used before it, and how many then are."""
    choices = [(text, used) for text in (*texts, *samples[:used])]
    return choices + [(text, used + 1) for text in samples[used:used + 1]]


def roomy_grouping(migration, size):
    """The grouping for the constants with the least number of spare texts with which the archive has enough rows."""
    source, target, constants, _ = migration
    many = 0
    while True:
        more = with_spare_texts(constants, many)
        check_many((source, target), more)
        grouping = Grouping(migration, more)
        if all(has_room(grouping, group, size) for group in grouping.groups):
            return grouping
        many += 1


def has_room(grouping, group, size):
    """Whether an archive of the size has a row for each case of the group that leaves its hidden texts out."""
    columns, values = size
    length = grouping.many_shown(group)
    return all(len(numbers) <= values * many_text_rows(length, columns, many)
               for many, numbers in enumerate(grouping.by_hidden(group)))


def extended_target(target, size):
    """The target with an archive of the size."""
    tables, checks = target
    columns, values = size
    kinds = [("value", tuple([f"p{number + 1}" for number in range(values)]), False)] if values > 1 else []
    texts = [(f"text{number + 1}", "text", False) for number in range(columns)]
    return ((*tables, (archive_name(tables), False, (*kinds, *texts))), checks)


def archive_name(tables):
    """The name of the archive beside the tables."""
    taken = set([name for name, _, _ in tables])
    name = "archive"
    number = 1
    while name in taken:
        number += 1
        name = f"archive{number}"
    return name


def archive_row(grouping, number, place, size):
    """The archive row of the case with this number, which has this place among those of its group that have as many
    hidden texts."""
    columns, values = size
    hidden = grouping.hidden[number]
    shown = grouping.texts_shown(number)
    rows = text_rows(shown, columns, len(hidden))
    samples = sample_texts(len(hidden), but=shown)
    texts = row_with_new_texts(rows[place % len(rows)], dict(zip(samples, hidden)))
    return ((f"p{place // len(rows) + 1}",), *texts) if values > 1 else texts
