"""Atoms, and the conditions made of them that tell which records are similar to some."""

from migraproof.cases import each_candidate
from migraproof.conditions import is_true, rows_by_name


def apart(schema, first, second, constants):
    """The first atom that is true for one of the two records only, None if there is none."""
    tables = schema[0]
    rows = rows_by_name(tables, first)
    other_rows = rows_by_name(tables, second)
    for atom in atoms_of(schema, constants):
        if is_true(atom, rows) != is_true(atom, other_rows):
            return atom
    return None


def description(schema, record, constants):
    """A condition that is true, among the records that fit, for those that are similar to the record."""
    rows = rows_by_name(schema[0], record)
    literals = []
    for group in atom_groups(schema, constants):
        true_ones = [atom for atom in group if is_true(atom, rows)]
        # A column's first atom that is true tells its cell, so the others say nothing more.
        literals.extend(true_ones[:1] or [negated(atom) for atom in group])
    return all_of(literals)


def condition_of(schema, constants, numbers):
    """A condition that is true, among the records that fit, for those that are similar to these candidates."""
    distinctions = Distinctions(schema, constants, list(each_candidate(schema, constants)))
    wanted = selection(numbers)
    return distinctions.condition_for(wanted, without(distinctions.everything, wanted))


class Distinctions:
    """Some records that fit a schema or have no row, no two of them similar, and the atoms that are true for each.

    A selection of the records is an integer here; the record number k is selected if its bit k is set.
    """

    def __init__(self, schema, constants, records):
        rows = [rows_by_name(schema[0], record) for record in records]
        self.atoms = atoms_of(schema, constants)
        self.true_for = [selection([number for number, own in enumerate(rows) if is_true(atom, own)])
                         for atom in self.atoms]
        self.everything = selection(list(range(len(rows))))

    def condition_for(self, wanted, others):
        """A condition that is true for the wanted records, false for the others, and of depth 4 at most."""
        terms = self.terms_for(wanted, others)
        terms_against = self.terms_for(others, wanted)
        if many_literals(terms_against) < many_literals(terms):
            return ("not", any_of([all_of(literals) for literals in terms_against]))
        return any_of([all_of(literals) for literals in terms])

    def terms_for(self, wanted, others):
        """Tuples of literals: for each wanted record all literals of one of them are true, for the others of none.

        The records are split by one atom after another, until no part has both wanted records and others.
        """
        terms = []
        waiting = [(wanted, others, 0, ())]
        while waiting:
            good, bad, start, literals = waiting.pop()
            if good and bad:
                at = self.next_split(good | bad, start)
                atom, true_for = self.atoms[at], self.true_for[at]
                false_literals = (*literals, negated(atom))
                waiting.append((without(good, true_for), without(bad, true_for), at + 1, false_literals))
                waiting.append((good & true_for, bad & true_for, at + 1, literals_with(literals, atom)))
            elif good:
                terms.append(literals)
        return terms

    def next_split(self, selected, start):
        """The number of the first atom, from this one on, that is true for some of the selected records only."""
        at = start
        while (self.true_for[at] & selected) in (0, selected):
            at += 1
        return at


def atoms_of(schema, constants):
    """All atoms, in order."""
    return [atom for group in atom_groups(schema, constants) for atom in group]


def atom_groups(schema, constants):
    """Lists of atoms: one for each table, then one for each column, in order."""
    groups = [[("exists", name)] for name, _, _ in schema[0]]
    earlier = []
    for table, _, columns in schema[0]:
        for name, kind, _ in columns:
            operand = ("column", table, name)
            others = [("cell", None)]
            if kind == "text":
                others = [*others, *[("cell", text) for text in constants], *earlier]
                earlier.append(operand)
            else:
                others = [*others, *[("cell", (value,)) for value in kind]]
            groups.append([("=", operand, other) for other in others])
    return groups


def literals_with(literals, atom):
    """The literals and the atom.

    What cells the column of the atom does not have need not be told any more: the atom implies it for the records that
    agree on the columns before.
    """
    kept = [literal for literal in literals if literal[0] != "!=" or literal[1] != atom[1]]
    return (*kept, atom)


def negated(atom):
    """A condition that is true if and only if the atom is false."""
    if atom[0] == "=":
        return ("!=", atom[1], atom[2])
    return ("not", atom)


def all_of(conditions):
    """A condition that is true if all of these are."""
    if not conditions:
        return ("true",)
    return conditions[0] if len(conditions) == 1 else ("and", tuple(conditions))


def any_of(conditions):
    """A condition that is true if one of these is."""
    if not conditions:
        return ("false",)
    return conditions[0] if len(conditions) == 1 else ("or", tuple(conditions))


def many_literals(terms):
    """How many literals the terms have together."""
    return sum([len(literals) for literals in terms])


def without(selected, others):
    """The selection of what is selected, but not among the others."""
    return selected & (selected ^ others)


def selection(numbers):
    """The integer whose bits with these numbers are set; no number occurs twice."""
    return sum([1 << number for number in numbers])
