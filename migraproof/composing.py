"""One migration behind another one."""

from migraproof.cases import cases, check_many
from migraproof.errors import SchemasDiffer
from migraproof.migrations import Effect, check_results, constants_of_both, reduced


def followed_by(first, second):
    """The migration that has the effect of the first one and then of the second one."""
    source, middle = first[0], first[1]
    target = second[1]
    if middle != second[0]:
        raise SchemasDiffer()
    check_results(first)
    constants = constants_of_both(first, second)
    check_many((source, middle, target), constants)
    effect, later = Effect(first), Effect(second)
    results = []
    for case in cases(source, constants):
        between = effect.result_of(case)
        results.append(None if between is None else later.result_of(between))
    return reduced((source, target, constants, tuple(results)))
