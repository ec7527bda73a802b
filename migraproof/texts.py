"""Sample texts, spare texts, and texts in ascending order."""


def sample_texts(many, *, but=()):
    """The first so many of v1, v2, v3, ... that are not among the constants."""
    return numbered_texts("v", many, but)


def spare_texts(many, *, but=()):
    """The first so many of c1, c2, c3, ... that are not among the constants."""
    return numbered_texts("c", many, but)


def ascending(texts):
    """The texts in ascending order, each once."""
    return tuple(sorted(set(texts)))


def with_spare_texts(constants, many):
    """The constants together with the first so many spare texts for them, ascending."""
    return ascending((*constants, *spare_texts(many, but=constants)))


def numbered_texts(letter, many, constants):
    """The first so many texts of the letter and a number that are no constants."""
    taken = set(constants)
    found = []
    number = 1
    while len(found) < many:
        text = f"{letter}{number}"
        if text not in taken:
            found.append(text)
        number += 1
    return tuple(found)
