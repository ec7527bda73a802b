"""The split of a source into tokens."""

from migraproof.errors import TextError

LETTERS = "abcdefghijklmnopqrstuvwxyz"
WORD_CHARACTERS = "abcdefghijklmnopqrstuvwxyz0123456789_"
BLANKS = " \n"
SYMBOLS = "{}();.|="
UNEQUAL = "!="
QUOTE = '"'
# Strings of the package do not contain this character, so only its code stands here.
PERCENT_CODE = 37
LONGEST_WORD = 20
LONGEST_LITERAL = 12


def tokens_of(source):
    """The tokens of the source, as triples of kind, text and place."""
    tokens = []
    place = 0
    while place < len(source):
        if source[place] in BLANKS:
            place += 1
        else:
            token, place = token_at(source, place)
            tokens.append(token)
    return tuple(tokens)


def token_at(source, place):
    """The token that begins at the place, and the place behind it."""
    first = source[place]
    if first in LETTERS:
        return word_at(source, place)
    if first == QUOTE:
        return literal_at(source, place)
    if first in SYMBOLS:
        return (("symbol", first, place), place + 1)
    if source[place:place + 2] == UNEQUAL:
        return (("symbol", UNEQUAL, place), place + 2)
    raise TextError(place, "unexpected character")


def word_at(source, place):
    """The word that begins at the place, and the place behind it."""
    end = place
    while end < len(source) and source[end] in WORD_CHARACTERS:
        end += 1
    if end - place > LONGEST_WORD:
        raise TextError(place, "word too long")
    return (("word", source[place:end], place), end)


def literal_at(source, place):
    """The literal that begins at the place, and the place behind it."""
    end = place + 1
    while end < len(source) and is_text_character(source[end]):
        end += 1
    if end == len(source) or source[end] != QUOTE:
        raise TextError(place, "literal not closed")
    text = source[place + 1:end]
    if len(text) > LONGEST_LITERAL:
        raise TextError(place, "literal too long")
    return (("literal", text, place), end + 1)


def is_text_character(character):
    """Whether the character may stand in a text."""
    return " " <= character <= "~" and character != QUOTE and ord(character) != PERCENT_CODE
