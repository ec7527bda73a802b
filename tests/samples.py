"""Schemas, records, results and scripts for the tests, and what the document tells of them in the plainest way."""

import itertools

from migraproof.cases import cases, fixture
from migraproof.conditions import holds
from migraproof.migrations import compiled, from_results, identity, migrated
from migraproof.schemas import fits


def table(name, *columns, optional=False):
    return (name, optional, columns)


def text(name, nullable=False):
    return (name, "text", nullable)


def values(name, many, nullable=False):
    return (name, tuple(f"w{number}" for number in range(many)), nullable)


def column(name):
    """The operand for a column, as in "t.a"."""
    return ("column", *name.split("."))


def equal(first, second):
    return ("=", first, second)


def unequal(first, second):
    return ("!=", first, second)


def choose(*branches, otherwise=("cell", None)):
    """The expression that takes the first branch whose condition is true."""
    return ("if", branches, otherwise)


def set_a(expression):
    return ("set", "t", "a", expression)


def set_b(expression):
    return ("set", "t", "b", expression)


def set_c(expression):
    return ("set", "u", "c", expression)


def set_d(expression):
    return ("set", "u", "d", expression)


def tags(condition):
    """The rule that tells by a value whether the condition is true."""
    return ("set", "u", "s", choose((condition, ("cell", ("w1",))), otherwise=("cell", ("w0",))))


def dropping(source, target, *names):
    """The migration that drops the records with these texts in a, copies a to all text columns, and sets the others."""
    a = ("column", "t", "a")
    sets = tuple(("set", name, at, a if kind == "text" else ("cell", ("w0",))) for name, _, columns in target[0]
                 for at, kind, _ in columns)
    return compiled(source, target, (*[("drop", ("=", a, ("cell", name))) for name in names], *sets))


NULL, X = ("cell", None), ("cell", "x")
ONE = ((table("t", text("a")),), ())
PAIR = ((table("t", text("a"), text("b", True)),), (("!=", ("column", "t", "b"), ("column", "t", "a")),))
FREE_PAIR = (PAIR[0], ())
MIXED = ((table("t", text("a", True), values("s", 2)), table("u", values("k", 3, True), text("b"), optional=True),
          table("w", text("c", True))), ())
OPTIONAL = ((table("t", text("a"), optional=True), table("u", values("s", 2, True), text("b", True), optional=True)),
            ())
MIDDLE = ((table("t", text("a"), text("b"), optional=True), table("u", text("c")),
           table("w", text("d", True), optional=True)), ())
TAGGED = ((table("t", values("s", 2), text("a"), text("b", True)),),
          (("or", (("=", column("t.s"), ("cell", ("w0",))), ("!=", column("t.a"), X))),))
SPLIT = ((table("p", text("a", True), optional=True), table("q", text("b"), values("s", 2, True), optional=True)),
         (("or", (("exists", "p"), ("!=", column("q.b"), X))),))
PLAIN = ((table("t", text("a"), text("b")),), ())
CHOSEN = ((table("t", values("s", 2), text("a"), text("b")),), ())
# Targets with a table u.
LETTERS = ((table("u", text("c")),), ())
TWO = ((table("u", text("c"), text("d")),), ())
MAYBE_ONE = ((table("u", text("c", True)),), ())
MAYBE_TWO = ((table("u", text("c", True), text("d", True)),), ())
TAGS = ((table("u", values("s", 2)),), ())
IMPOSSIBLE = (ONE[0], (("=", column("t.a"), ("cell", "y")), ("!=", column("t.a"), ("cell", "y"))))
SMALL = (PAIR, MIXED, OPTIONAL, MIDDLE)
SOME_CONSTANTS = ((), ("x",), ("v1",), ("", "v2"), ("v1", "v2", "v4"))


def listed(schema, constants):
    """The candidates by choices, written down as [80] tells them."""
    samples = [f"v{number}" for number in range(1, 60) if f"v{number}" not in constants]
    choices = []
    for place, (_, optional, columns) in enumerate(schema[0]):
        choices.append(("row", place, optional))
        choices.extend(("cell", place, column) for column in columns)

    def go_on(at, rows, used):
        if at == len(choices):
            yield tuple(None if row is None else tuple(row) for row in rows)
            return
        word, place, what = choices[at]
        if word == "row":
            if what:
                yield from go_on(at + 1, [*rows, None], used)
            yield from go_on(at + 1, [*rows, []], used)
        elif rows[place] is None:
            yield from go_on(at + 1, rows, used)
        else:
            _, kind, nullable = what
            cells = [None] if nullable else []
            if kind == "text":
                cells += [*constants, *samples[:used + 1]]
            else:
                cells += [(name,) for name in kind]
            for cell in cells:
                is_new = cell == samples[used]
                yield from go_on(at + 1, [*rows[:place], [*rows[place], cell]], used + 1 if is_new else used)

    return list(go_on(0, [], 0))


def valid_over(schema, texts):
    """All valid records with these texts, from all combinations of cells."""
    places = []
    for _, optional, columns in schema[0]:
        cells = [[None, *(texts if kind == "text" else [(name,) for name in kind])] for _, kind, _ in columns]
        places.append([None, *itertools.product(*cells)] if optional else list(itertools.product(*cells)))
    return [record for record in itertools.product(*places)
            if fits(schema, record) and all(holds(schema[0], check, record) for check in schema[1])]


def texts_in(record):
    """The texts of a record, in the order of its cells, each once."""
    cells = [cell for row in record for cell in row or () if isinstance(cell, str)]
    return tuple(dict.fromkeys(cells))


def results_of(migration, records):
    """The results of all these records at once, as a list."""
    found = dict(migrated(migration, tuple((f"k{number}", record) for number, record in enumerate(records))))
    return [found.get(f"k{number}") for number in range(len(records))]


def random_result(rng, target, texts, drops=0.2):
    """None, or a record of the shape of the target with some of the texts; it is often not valid."""
    if rng.random() < drops:
        return None
    while True:
        record = tuple(None if optional and rng.random() < 0.4 else tuple(random_cell(rng, kind, texts)
                                                                         for _, kind, _ in columns)
                       for _, optional, columns in target[0])
        if any(row is not None for row in record):
            return record


def random_cell(rng, kind, texts):
    """Null, or a text, or a value that may be unknown."""
    if rng.random() < 0.2:
        return None
    if kind == "text":
        return rng.choice(texts) if texts else None
    return (rng.choice((*kind, "unknown")),)


def random_valid_results(rng, target, constants, records):
    """For each record None or a valid record of the target with texts of the record and constants."""
    results = []
    for record in records:
        known = tuple(sorted({*constants, *texts_in(record)}))
        found = valid_over(target, known)
        results.append(rng.choice(found) if found and rng.random() < 0.9 else None)
    return tuple(results)


def random_migration(rng, source, target, own, valid):
    """A migration for these own texts at most, with valid results or with any that have the shape of the target."""
    constants, records = fixture(source, target, own=own)
    if valid:
        results = random_valid_results(rng, target, constants, records)
    else:
        results = tuple(random_result(rng, target, (*constants, *texts_in(record))) for record in records)
    return from_results(source, target, results, own=own)


def random_operand(rng, tables, kinds, texts):
    """A column, null, a text or a value, of one of these kinds."""
    options = [("column", name, at) for name, _, columns in tables for at, kind, _ in columns
               if ("text" if kind == "text" else "value") in kinds]
    options.append(NULL)
    if "text" in kinds:
        options.extend(("cell", word) for word in texts)
    if "value" in kinds:
        options.extend((("cell", ("w0",)), ("cell", ("w1",))))
    return rng.choice(options)


def random_condition(rng, tables, texts, level):
    """A condition that raises no error for the tables."""
    word = rng.choice(("=", "=", "!=", "exists", "not", "and", "or") if level else ("=", "!=", "exists"))
    if word == "exists":
        return (word, rng.choice(tables)[0])
    if word in ("=", "!="):
        kinds = rng.choice((("text",), ("text",), ("value",)))
        return (word, *[random_operand(rng, tables, kinds, texts) for _ in range(2)])
    parts = tuple(random_condition(rng, tables, texts, level - 1) for _ in range(rng.randint(2, 3)))
    return ("not", parts[0]) if word == "not" else (word, parts)


def random_expression(rng, tables, kind, texts, level):
    """An expression for a column of the kind."""
    if not level or rng.random() < 0.3:
        return random_operand(rng, tables, (kind,), texts)
    branches = tuple((random_condition(rng, tables, texts, 1), random_expression(rng, tables, kind, texts, level - 1))
                     for _ in range(rng.randint(1, 2)))
    return ("if", branches, random_operand(rng, tables, (kind,), texts))


def random_script(rng, source, target, texts):
    """A script from the source to the target that raises no error."""
    rules = [("drop", random_condition(rng, source[0], texts, 2)) for _ in range(rng.choice((0, 0, 1, 1, 2)))]
    for name, optional, columns in target[0]:
        if optional and rng.random() < 0.7:
            rules.append(("when", name, random_condition(rng, source[0], texts, 2)))
        for at, kind, _ in columns:
            expression = random_expression(rng, source[0], "text" if kind == "text" else "value", texts, 2)
            rules.append(("set", name, at, expression))
    rng.shuffle(rules)
    return tuple(rules)


def random_pairs(rng, many):
    """Pairs of random migrations with the same source; so many for each of some sources."""
    for source in (ONE, PAIR, PLAIN, FREE_PAIR, CHOSEN, TAGGED):
        for _ in range(many):
            pair = []
            for own in ((), rng.choice(((), ("k",), ("v1",)))):
                target = rng.choice((LETTERS, TWO, TAGS, MAYBE_ONE, MAYBE_TWO))
                if rng.random() < 0.6:
                    pair.append(random_rearrangement(rng, source, target, own))
                else:
                    pair.append(random_migration(rng, source, target, own, rng.random() < 0.5))
            yield pair


def random_rearrangement(rng, source, target, own):
    """A migration that mostly copies texts, and rarely drops."""
    constants = tuple(sorted({*own, *identity(source)[2]}))
    results = []
    for case in cases(source, constants):
        names = texts_in(case)
        cells = rng.sample(names, len(names)) + [rng.choice(names) if names else None for _ in range(2)]
        row = tuple(cells[place] if kind == "text" else (rng.choice(kind),)
                    for place, (_, kind, _) in enumerate(target[0][0][2]))
        results.append(None if rng.random() < 0.04 else (row,))
    return from_results(source, target, tuple(results), own=own)
