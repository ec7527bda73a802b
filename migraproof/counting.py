"""The number of candidates, and the way from a number to its candidate and back, without listing them.

A candidate is a row of choices. How many candidates go on from a choice depends only on how many sample texts the
choices before it use; these numbers are worked out from the last choice to the first one.
"""

from migraproof.records import canonical
from migraproof.texts import sample_texts


def many_candidates(schema, many):
    """The number of candidates for so many constants."""
    return ways_from_choices(choices_of(schema, many))[0][0]


def candidate_at(schema, constants, number):
    """The candidate with this number."""
    walk = Walk(schema, constants)
    record = []
    for _, is_optional, columns in schema[0]:
        if is_optional:
            without = walk.ways_without(columns)
            if number < without:
                walk.leave_out(columns)
                record.append(None)
                continue
            number -= without
            walk.enter()
        row, number = row_at(walk, columns, number)
        record.append(row)
    return tuple(record)


def number_of(schema, constants, record):
    """The number of the candidate that is similar to the record."""
    walk = Walk(schema, constants)
    number = 0
    for (_, is_optional, columns), row in zip(schema[0], canonical(record, constants)):
        if row is None:
            walk.leave_out(columns)
            continue
        if is_optional:
            number += walk.ways_without(columns)
            walk.enter()
        for column, cell in zip(columns, row):
            number += walk.cells_now(column).index(cell) * walk.ways_behind()
            walk.choose(cell)
    return number


def row_at(walk, columns, number):
    """The row with which the walk goes on to the candidate with this number among those from here, and
    the candidate's number among those behind the row."""
    row = []
    for column in columns:
        cells = walk.cells_now(column)
        behind = walk.ways_behind()
        at = min(number // behind, len(cells) - 1)
        number -= at * behind
        row.append(cells[at])
        walk.choose(cells[at])
    return tuple(row), number


class Walk:
    """A way through the choices: how many were made, and how many sample texts they use."""

    def __init__(self, schema, constants):
        choices = choices_of(schema, len(constants))
        self.constants = constants
        self.ways = ways_from_choices(choices)
        self.samples = sample_texts(len(choices), but=constants)
        self.made = 0
        self.used = 0

    def ways_without(self, columns):
        """How many candidates go on without a row in the optional table that is to be chosen now."""
        return self.ways[self.made + 1 + len(columns)][self.used]

    def leave_out(self, columns):
        """Chooses no row in the optional table that is to be chosen now."""
        self.made += 1 + len(columns)

    def enter(self):
        """Chooses a row in the optional table that is to be chosen now."""
        self.made += 1

    def cells_now(self, column):
        """The cells that the column can have that is to be chosen now."""
        return cells_for(column, (*self.constants, *self.samples[:self.used + 1]))

    def ways_behind(self):
        """How many candidates go on with a cell that is not the next sample text."""
        return self.ways[self.made + 1][self.used]

    def choose(self, cell):
        """Chooses the cell in the column that is to be chosen now."""
        self.made += 1
        if cell == self.samples[self.used]:
            self.used += 1


def cells_for(column, texts):
    """The cells that the column can have if its texts are among these, in the order of the choices."""
    _, kind, is_nullable = column
    cells = [None] if is_nullable else []
    if kind == "text":
        return [*cells, *texts]
    return cells + [(name,) for name in kind]


def choices_of(schema, many):
    """The choices in order, for so many constants, as pairs of a word and a number.

    ("row", columns) is the choice of an optional table, ("value", cells) that of a column with values, and
    ("text", cells) that of a text column, where the sample texts are not counted.
    """
    choices = []
    for _, is_optional, columns in schema[0]:
        if is_optional:
            choices.append(("row", len(columns)))
        for _, kind, is_nullable in columns:
            cells = many if kind == "text" else len(kind)
            choices.append(("text" if kind == "text" else "value", cells + 1 if is_nullable else cells))
    return choices


def ways_from_choices(choices):
    """For each choice, and behind the last one: how many ways go on from it if 0, 1, ... sample texts are used."""
    many_texts = len([word for word, _ in choices if word == "text"])
    found = [[1] * (many_texts + 1)]
    for choice in reversed(choices):
        found.append(ways_from_choice(choice, found))
    return found[::-1]


def ways_from_choice(choice, later):
    """How many ways go on from the choice if 0, 1, ... sample texts are used.

    `later` has the same for the choices behind it, the nearest one last.
    """
    word, number = choice
    behind = later[-1]
    if word == "row":
        without = later[-1 - number]
        return [ways + without[used] for used, ways in enumerate(behind)]
    if word == "value":
        return [number * ways for ways in behind]
    return [(number + used) * behind[used] + behind[used + 1] for used in range(len(behind) - 1)]
