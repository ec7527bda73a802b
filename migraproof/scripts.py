"""Scripts: whether they are sound, and the results that they give."""

from migraproof.conditions import given_cell, is_true, rows_by_name
from migraproof.errors import GivenTwice, NotAssigned, NotOptional, WrongKind
from migraproof.schemas import check_condition, column_called, operand_kind, table_called
from migraproof.texts import ascending
from migraproof.trees import texts_of


def check_script(source, target, script):
    """Raises what is wrong with the script, rule by rule; then what is missing."""
    given = {}
    for rule in script:
        if rule[0] == "drop":
            check_condition(source[0], rule[1])
        elif rule[0] == "when":
            check_when(source, target, rule, given)
        else:
            check_set(source, target, rule, given)
    for table, _, columns in target[0]:
        for column, _, _ in columns:
            if f"{table}.{column}" not in given:
                raise NotAssigned(f"{table}.{column}")


def applied(source, target, script, record):
    """The result of the record, None if it is dropped."""
    rows = rows_by_name(source[0], record)
    conditions = {}
    expressions = {}
    for rule in script:
        if rule[0] == "drop":
            if is_true(rule[1], rows):
                return None
        elif rule[0] == "when":
            conditions[rule[1]] = rule[2]
        else:
            expressions[(rule[1], rule[2])] = rule[3]
    places = []
    for name, _, columns in target[0]:
        if name in conditions and not is_true(conditions[name], rows):
            places.append(None)
        else:
            places.append(tuple([given_cell(expressions[(name, column)], rows) for column, _, _ in columns]))
    return None if all(place is None for place in places) else tuple(places)


def script_texts(script):
    """The texts of all rules, ascending."""
    found = []
    for rule in script:
        # The last part of every rule is its condition or its expression.
        found.extend(texts_of(rule[-1]))
    return ascending(tuple(found))


def check_when(source, target, rule, given):
    """Raises what is wrong with a "when" rule; puts its table among the names that are given."""
    _, name, condition = rule
    if not table_called(target[0], name)[1]:
        raise NotOptional(name)
    give(name, given)
    check_condition(source[0], condition)


def check_set(source, target, rule, given):
    """Raises what is wrong with a "set" rule; puts its column among the names that are given."""
    _, table, column, expression = rule
    wanted = "text" if column_called(target[0], table, column)[1] == "text" else "value"
    name = f"{table}.{column}"
    give(name, given)
    for kind in kinds_given(source[0], expression):
        if kind is not None and kind != wanted:
            raise WrongKind(name)


def give(name, given):
    """Puts the name into the dict; raises GivenTwice if it is there."""
    if name in given:
        raise GivenTwice(name)
    given[name] = True


def kinds_given(tables, expression):
    """The kinds of the operands that the expression can give; raises what is wrong with it, from left to right."""
    if expression[0] != "if":
        return [operand_kind(tables, expression)]
    kinds = []
    for condition, branch in expression[1]:
        check_condition(tables, condition)
        kinds.extend(kinds_given(tables, branch))
    kinds.append(operand_kind(tables, expression[2]))
    return kinds
