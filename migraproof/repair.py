"""The nearest migration to a draft that loses nothing, and equivalent schemas."""

from migraproof.analysis import inverse
from migraproof.capacity import capacity, counts
from migraproof.cases import cases, check_many, fixture
from migraproof.migrations import Effect, reduced
from migraproof.records import canonical, free_texts
from migraproof.recovery import texts_without
from migraproof.schemas import is_valid
from migraproof.texts import with_spare_texts


def spare_needed(draft):
    """The number of spare texts that repair needs, None if no lossless migration exists."""
    source, target, constants, _ = draft
    required, room = counts(source, constants), counts(target, constants)
    # Counts have no zeros at the end, so the longer ones are greater at the largest place where they differ.
    if (len(required), required[::-1]) > (len(room), room[::-1]):
        return None
    many = 0
    while any(number > places for number, places in zip(required, room)):
        many += 1
        check_many((source, target), with_spare_texts(constants, many))
        required, room = with_one_more_constant(required), with_one_more_constant(room)
    return many


def kept(draft):
    """For each case whether the result of the draft is kept, None if no lossless migration exists."""
    many = spare_needed(draft)
    if many is None:
        return None
    return tuple([given is not None for _, given in kept_results(draft, with_spare_texts(draft[2], many))])


def repair(draft):
    """The repaired migration, None if no lossless migration exists."""
    many = spare_needed(draft)
    if many is None:
        return None
    source, target = draft[0], draft[1]
    constants = with_spare_texts(draft[2], many)
    rows = kept_results(draft, constants)
    left = cases_left(target, constants, [given for _, given in rows if given is not None])
    results = []
    for case, given in rows:
        results.append(left[len(free_texts(case, constants))].pop(0) if given is None else given)
    return reduced((source, target, constants, tuple(results)))


def equivalence(source, target):
    """Migrations there and back, each of which is the inverse of the other one; None if the capacities differ."""
    if capacity(source) != capacity(target):
        return None
    constants, records = fixture(source, target)
    there = repair((source, target, constants, (None,) * len(records)))
    return (there, inverse(there))


def with_one_more_constant(numbers):
    """The counts for one more constant."""
    later = (*numbers[1:], 0)
    return tuple([number + (many + 1) * later[many] for many, number in enumerate(numbers)])


def kept_results(draft, constants):
    """The pairs of a case and the result of the draft if it is kept, otherwise None, in the order of the cases."""
    source, target = draft[0], draft[1]
    effect = Effect(draft)
    taken = set()
    rows = []
    for case in cases(source, constants):
        given = effect.result_of(case)
        if is_faithful(target, constants, case, given) and canonical(given, constants) not in taken:
            taken.add(canonical(given, constants))
            rows.append((case, given))
        else:
            rows.append((case, None))
    return rows


def is_faithful(target, constants, case, given):
    """Whether the result is there, is valid and contains all free texts of the case."""
    if given is None or not is_valid(target, given):
        return False
    return not texts_without(free_texts(case, constants), given, constants)


def cases_left(target, constants, results):
    """The cases of the target that are similar to none of the results: a list for each number of free texts."""
    taken = {canonical(given, constants): True for given in results}
    left = {}
    for case in cases(target, constants):
        if case not in taken:
            left.setdefault(len(free_texts(case, constants)), []).append(case)
    return left
