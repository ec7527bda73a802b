"""How many valid records have one and the same result, and what an archive must hold to tell them apart."""

from migraproof.capacity import from_counts
from migraproof.cases import cases
from migraproof.errors import DropsRecords
from migraproof.migrations import Effect, check_results
from migraproof.polynomials import compare, multiplied
from migraproof.records import canonical, free_texts
from migraproof.recovery import texts_without


def hidden_texts(migration):
    """For each case the tuple of its free texts that do not occur in its result."""
    return tuple([tuple(texts) for texts in own_grouping(migration).hidden])


def groups(migration):
    """The groups of cases with similar results, each the ascending tuple of its numbers."""
    return tuple([tuple(numbers) for numbers in own_grouping(migration).groups])


def fibre(migration, number):
    """The polynomial for the number of the records over n texts that have one result of the group."""
    grouping = own_grouping(migration)
    return grouping.fibre_of(grouping.groups[number])


def crowded(migration, columns, values):
    """None if an archive with so many text columns and values is large enough, otherwise the first group for which
    it is not, and the number of texts from which on it is too small."""
    grouping = own_grouping(migration)
    for number, group in enumerate(grouping.groups):
        start, sign = compare(grouping.fibre_of(group), many_rows(columns, values))
        if sign == 1:
            return (number, max(start, grouping.many_shown(group)))
    return None


def archive_size(migration):
    """The least number of text columns, and for it the least number of values, of an archive that is large enough."""
    grouping = own_grouping(migration)
    columns = max([len(texts) for texts in grouping.hidden], default=0)
    values = [least_values(grouping.fibre_of(group), columns) for group in grouping.groups]
    return (columns, max(values, default=1))


def own_grouping(migration):
    """The grouping for the constants of the migration; raises InvalidResults and DropsRecords."""
    check_results(migration)
    for place, given in enumerate(migration[3]):
        if given is None:
            raise DropsRecords(place)
    return Grouping(migration, migration[2])


class Grouping:
    """The cases of a migration that drops nothing, for constants that contain its own: their results, their hidden
    texts, and the groups of their numbers."""

    def __init__(self, migration, constants):
        effect = Effect(migration)
        self.constants = constants
        self.records = cases(migration[0], constants)
        self.results = [effect.result_of(record) for record in self.records]
        self.hidden = [texts_without(free_texts(record, constants), given, constants)
                       for record, given in zip(self.records, self.results)]
        found = {}
        for number, given in enumerate(self.results):
            found.setdefault(canonical(given, constants), []).append(number)
        self.groups = list(found.values())

    def texts_shown(self, number):
        """The constants and the free texts of the result of the case."""
        return (*self.constants, *free_texts(self.results[number], self.constants))

    def many_shown(self, group):
        """The number of the constants and of the free texts of a result of the group together."""
        return len(self.texts_shown(group[0]))

    def by_hidden(self, group):
        """The lists of the numbers of the group's cases with 0, 1, ... hidden texts, as far as there are any."""
        found = []
        for number in group:
            many = len(self.hidden[number])
            while len(found) <= many:
                found.append([])
            found[many].append(number)
        return found

    def fibre_of(self, group):
        """The fibre of the group."""
        return from_counts([len(numbers) for numbers in self.by_hidden(group)], self.many_shown(group))


def many_rows(columns, values):
    """The polynomial for the number of the rows of an archive over n texts."""
    return multiplied((values,), (*[0] * columns, 1))


def least_values(polynomial, columns):
    """The least number of values with which archives with so many text columns have, for all large n, as many rows as
    the polynomial tells; its degree is not greater than the number of columns, and it is positive for all large n."""
    values = polynomial[columns] if columns < len(polynomial) else 0
    if compare(polynomial, many_rows(columns, values))[1] == 1:
        return values + 1
    return values
