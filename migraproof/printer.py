"""The printed forms of conditions, expressions, schemas and scripts."""

from migraproof.trees import is_comparison

# The conditions that stand in parentheses as parts of a condition that begins with the word.
IN_PARENTHESES = {"not": ("and", "or"), "and": ("and", "or"), "or": ("or",)}


def show_tree(tree):
    """The printed form of a condition or expression."""
    head = tree[0]
    if head in ("true", "false"):
        return head
    if head == "exists":
        return f"exists {tree[1]}"
    if head == "cell":
        return show_cell(tree[1])
    if head == "column":
        return f"{tree[1]}.{tree[2]}"
    if is_comparison(tree):
        return f"{show_tree(tree[1])} {head} {show_tree(tree[2])}"
    if head == "if":
        return show_choice(tree)
    if head == "not":
        return f"not {show_part(head, tree[1])}"
    separator = f" {head} "
    return separator.join([show_part(head, part) for part in tree[1]])


def show_schema(schema):
    """The printed form of a schema."""
    tables, checks = schema
    lines = []
    for name, is_optional, columns in tables:
        lines.append(f"optional table {name} {{" if is_optional else f"table {name} {{")
        lines.extend([show_column(column) for column in columns])
        lines.append("}")
    lines.extend([f"check {show_tree(condition)};" for condition in checks])
    return ended_lines(lines)


def show_script(script):
    """The printed form of a script."""
    return ended_lines([show_rule(rule) for rule in script])


def show_cell(cell):
    """The printed form of the operand for a cell."""
    if cell is None:
        return "null"
    return f'"{cell}"' if isinstance(cell, str) else cell[0]


def show_choice(expression):
    """The printed form of an "if"."""
    branches = [f"if {show_tree(condition)} then {show_tree(branch)} else " for condition, branch in expression[1]]
    return "".join(branches) + show_tree(expression[2])


def show_part(word, condition):
    """The printed form of a part of a condition that begins with the word."""
    shown = show_tree(condition)
    return f"({shown})" if condition[0] in IN_PARENTHESES[word] else shown


def show_column(column):
    """The line of a column."""
    name, kind, is_nullable = column
    shown = kind if kind == "text" else " | ".join(kind)
    return f"  {name} {shown} null;" if is_nullable else f"  {name} {shown};"


def show_rule(rule):
    """The line of a rule."""
    shown = show_tree(rule[-1])
    if rule[0] == "drop":
        return f"drop when {shown};"
    if rule[0] == "when":
        return f"{rule[1]} when {shown};"
    return f"{rule[1]}.{rule[2]} = {shown};"


def ended_lines(lines):
    """The lines in one string, each ended by a line feed."""
    return "".join([f"{line}\n" for line in lines])
