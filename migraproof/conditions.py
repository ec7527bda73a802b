"""The truth of conditions and the cells that expressions give."""


def holds(tables, condition, record):
    """Whether the condition is true for the record."""
    return is_true(condition, rows_by_name(tables, record))


def cell_of(tables, expression, record):
    """The cell that the expression gives for the record."""
    return given_cell(expression, rows_by_name(tables, record))


def rows_by_name(tables, record):
    """A dict with a row for each name of a table: None, or a dict with a cell for each name of a column."""
    return {name: cells_by_name(columns, row) for (name, _, columns), row in zip(tables, record)}


def cells_by_name(columns, row):
    """A dict with the cell of the row for each name of a column; None for no row."""
    if row is None:
        return None
    return {name: cell for (name, _, _), cell in zip(columns, row)}


def is_true(condition, rows):
    """Whether the condition is true for rows by name."""
    head = condition[0]
    if head == "exists":
        return rows[condition[1]] is not None
    if head == "=":
        return denoted(condition[1], rows) == denoted(condition[2], rows)
    if head == "!=":
        return denoted(condition[1], rows) != denoted(condition[2], rows)
    if head == "not":
        return not is_true(condition[1], rows)
    if head == "and":
        return all(is_true(part, rows) for part in condition[1])
    if head == "or":
        return any(is_true(part, rows) for part in condition[1])
    return head == "true"


def given_cell(expression, rows):
    """The cell that the expression gives for rows by name."""
    if expression[0] != "if":
        return denoted(expression, rows)
    for condition, branch in expression[1]:
        if is_true(condition, rows):
            return given_cell(branch, rows)
    return denoted(expression[2], rows)


def denoted(operand, rows):
    """The cell that the operand denotes for rows by name."""
    if operand[0] == "cell":
        return operand[1]
    row = rows[operand[1]]
    if row is None:
        return None
    return row[operand[2]]
