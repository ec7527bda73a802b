"""Records: their free texts, renamings, and canonical forms."""

from migraproof.texts import sample_texts


def free_texts(record, constants):
    """The texts of the record that are not constants, in the order of their first occurrences."""
    return tuple(texts_beside(record, {text: True for text in constants}))


def renamed(record, pairs):
    """The record with the first texts of the pairs replaced by the second ones, all at once."""
    return record_with_new_texts(record, dict(pairs))


def exchanged(record, first, second):
    """The record with each of the two texts replaced by the other one."""
    return renamed(record, ((first, second), (second, first)))


def canonical(record, constants):
    """The similar record whose free texts are the first sample texts, in order."""
    texts = free_texts(record, constants)
    samples = sample_texts(len(texts), but=constants)
    return renamed(record, tuple(zip(texts, samples)))


def renaming(first, second, constants):
    """The pairs of corresponding free texts of two similar records, None if they are not similar."""
    if canonical(first, constants) != canonical(second, constants):
        return None
    return tuple(zip(free_texts(first, constants), free_texts(second, constants)))


def texts_beside(record, fixed):
    """The list of the texts of the record that are no keys of the dict, in the order of their first occurrences."""
    found = {}
    for row in record:
        for cell in row or ():
            if isinstance(cell, str) and cell not in fixed:
                found[cell] = True
    return list(found)


def record_with_new_texts(record, news):
    """The record with each text that is a key of the dict replaced by what stands there."""
    return tuple([row_with_new_texts(row, news) for row in record])


def row_with_new_texts(row, news):
    """The row with each text that is a key of the dict replaced by what stands there; None stays None."""
    if row is None:
        return None
    return tuple([news.get(cell, cell) for cell in row])
