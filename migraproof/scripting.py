"""Scripts for given migrations."""

from migraproof.cases import cases
from migraproof.conditions import denoted, rows_by_name
from migraproof.describing import Distinctions, selection, without

NULL = ("cell", None)


def script_of(migration):
    """A script whose migration is the given one."""
    source, target, constants, results = migration
    writer = Writer(source, constants)
    kept = {number: given for number, given in enumerate(results) if given is not None}
    rules = []
    dropped = [number for number, given in enumerate(results) if given is None]
    if dropped:
        rules.append(("drop", writer.condition_for(dropped, list(kept))))
    for place, (table, _, columns) in enumerate(target[0]):
        rows = {number: given[place] for number, given in kept.items() if given[place] is not None}
        rest = [number for number in kept if number not in rows]
        if rest:
            rules.append(("when", table, writer.condition_for(list(rows), rest)))
        for at, (column, kind, _) in enumerate(columns):
            cells = {number: row[at] for number, row in rows.items()}
            rules.append(("set", table, column, writer.expression_for(kind == "text", cells)))
    return tuple(rules)


class Writer:
    """Writes conditions and expressions for the cases of a source, which are told by their numbers."""

    def __init__(self, source, constants):
        records = cases(source, constants)
        self.constants = constants
        self.distinctions = Distinctions(source, constants, records)
        self.columns = columns_with_cells(source[0], records)

    def condition_for(self, wanted, others):
        """A condition that is true for the wanted cases and false for the others."""
        return self.distinctions.condition_for(selection(wanted), selection(others))

    def expression_for(self, is_text, cells):
        """An expression that gives these cells; `is_text` tells whether they are for a text column.

        The operand that serves most cases stands last, and the conditions tell those of the other ones.
        """
        chosen = self.operands_for(is_text, cells)
        if not chosen:
            return NULL
        otherwise, _, rest = chosen[0]
        branches = []
        for operand, served, own in chosen[1:]:
            condition = self.distinctions.condition_for(own, without(rest, served))
            branches.append((condition, operand))
            rest = rest | own
        return ("if", tuple(branches[::-1]), otherwise) if branches else otherwise

    def operands_for(self, is_text, cells):
        """Operands that together serve all cases: triples of the operand, the selection of the cases for which it
        denotes the wanted cell, and the selection of those among them that no earlier operand serves."""
        left = selection(list(cells))
        chosen = []
        for _, operand, numbers in sorted(self.operands(is_text, cells), key=lambda option: option[0], reverse=True):
            served = selection(numbers)
            if served & left:
                chosen.append((operand, served, served & left))
                left = without(left, served)
        return chosen

    def operands(self, is_text, cells):
        """The operands that serve cases: triples of how many cases, the operand, and the numbers of the cases."""
        served = {operand: [place for place, wanted in cells.items() if own[place] == wanted]
                  for operand, holds_texts, own in self.columns if holds_texts == is_text}
        for number, cell in cells.items():
            # A free text stands for any text, so only columns can denote it.
            if not isinstance(cell, str) or cell in self.constants:
                served.setdefault(("cell", cell), []).append(number)
        return [(len(numbers), operand, numbers) for operand, numbers in served.items()]


def columns_with_cells(tables, records):
    """Triples for the columns: the operand, whether it is a text column, and the cells it denotes for the records."""
    rows = [rows_by_name(tables, record) for record in records]
    found = []
    for table, _, columns in tables:
        for column, kind, _ in columns:
            operand = ("column", table, column)
            found.append((operand, kind == "text", [denoted(operand, own) for own in rows]))
    return found
