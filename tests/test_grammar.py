"""The place of the first faulty token [283], and which sources are read, beside a parser of the grammar of [281]."""

import itertools
import random
import unittest

from migraproof.errors import MigrationError, TextError
from migraproof.reader import RESERVED, read_condition, read_expression, read_schema, read_script

# The grammar with its repetitions written as further rules; NAME and LITERAL are kinds of tokens.
RULES = """
schema = declaration | declaration schema
declaration = table | check
table = TABLE | optional TABLE
TABLE = table_ NAME { columns }
columns = column | column columns
column = NAME kind ; | NAME kind null ;
kind = text | names
names = NAME | NAME bar names
check = check_ condition ;
condition = conjunction | conjunction or condition
conjunction = negation | negation and conjunction
negation = not negation | ( condition ) | true | false | exists NAME | operand = operand | operand != operand
operand = null | LITERAL | NAME | NAME . NAME
expression = operand | if condition then expression else expression
script = | rule script
rule = drop when condition ; | NAME when condition ; | NAME . NAME = expression ;
"""
MARKS = {"table_": "table", "check_": "check", "bar": "|"}


def productions():
    found = {}
    for line in RULES.strip().split("\n"):
        head, _, right = line.partition(" =")
        found[head] = [right_side.split() for right_side in right.split(" | ")] if right.strip() else [[]]
    # A rule that may be empty begins with the sign between alternatives.
    found["script"] = [[], ["rule", "script"]]
    return found


GRAMMAR = productions()


class Parser:
    """Earley's parser; every rule of the grammar can be completed, so states that are left tell that more can follow."""

    def __init__(self, start):
        self.start = start
        self.sets = [self.closed([(start, tuple(side), 0, 0) for side in GRAMMAR[start]], 0)]

    def closed(self, items, at):
        found = dict.fromkeys(items)
        waiting = list(found)
        while waiting:
            head, side, dot, begin = waiting.pop()
            new = []
            if dot < len(side) and side[dot] in GRAMMAR:
                new = [(side[dot], tuple(other), 0, at) for other in GRAMMAR[side[dot]]]
                # What is empty is completed at once.
                if [] in GRAMMAR[side[dot]]:
                    new.append((head, side, dot + 1, begin))
            elif dot == len(side):
                earlier = found if begin == at else self.sets[begin]
                new = [(h, s, d + 1, b) for h, s, d, b in earlier if d < len(s) and s[d] == head]
            for item in new:
                if item not in found:
                    found[item] = None
                    waiting.append(item)
        return found

    def takes(self, token):
        items = [(head, side, dot + 1, begin) for head, side, dot, begin in self.sets[-1]
                 if dot < len(side) and side[dot] not in GRAMMAR and MARKS.get(side[dot], side[dot]) == token]
        self.sets.append(self.closed(items, len(self.sets)))
        return bool(items)

    def is_whole(self):
        return any(head == self.start and dot == len(side) and begin == 0
                   for head, side, dot, begin in self.sets[-1])


def kind_of(token):
    if token.startswith('"'):
        return "LITERAL"
    return "NAME" if token[0].isalpha() and token not in RESERVED else token


def first_fault(start, tokens):
    """The number of the first faulty token, the number of tokens if the source ends too early, None if it is read."""
    parser = Parser(start)
    for number, token in enumerate(tokens):
        if not parser.takes(kind_of(token)):
            return number
    return None if parser.is_whole() else len(tokens)


def place_of(tokens, number):
    """The place of the token in the source that has one blank between tokens."""
    return len(" ".join(tokens)) if number == len(tokens) else len(" ".join([*tokens[:number], ""]))


READERS = {"schema": read_schema, "condition": read_condition, "expression": read_expression, "script": read_script}
SAMPLES = {
    "schema": (
        'optional table t { a text null ; b x | y | z ; } check t . a != "p" and not exists t ;',
        'check ( true or t . b = x ) ; table t { b x null ; } table u { c text ; d x | on null ; }',
    ),
    "condition": (
        'not ( t . a = null or "x" != t . b ) and exists u or true and ( false )',
        "t . a = on or ( ( x != y ) ) and not not exists t",
    ),
    "expression": (
        'if t . a = "x" then if true then u . b else null else if exists u then on else t . a',
        "if not true or ( false and x = y ) then null else x",
    ),
    "script": (
        'drop when exists u and true ; t when t . a = null ; t . a = if true then "x" else t . b ;',
        "t . a = null ; u when not ( false ) ; u . b = on ; drop when x != y ;",
    ),
}
WORDS = {
    "schema": ["optional", "table", "check", "t", "{", "}", ";", "text", "null", "|", "true"],
    "condition": ["not", "(", ")", "true", "exists", "t", ".", "=", "!=", "null", '"x"', "and", "or", "if"],
    "expression": ["if", "then", "else", "true", "t", ".", "=", "null", '"x"', "("],
    "script": ["drop", "when", "t", ".", "=", ";", "null", "true", "if", '"x"', "("],
}


class AgainstTheGrammar(unittest.TestCase):
    def compare(self, start, tokens):
        number = first_fault(start, tokens)
        source = " ".join(tokens)
        expected = None if number is None else place_of(tokens, number)
        try:
            READERS[start](source)
            found = None
        except TextError as error:
            found = None if error.reason == "no tables" else error.place
        except MigrationError:
            found = None
        self.assertEqual(found, expected, (start, source))
        return expected

    def test_the_samples_are_read(self):
        for start, sources in SAMPLES.items():
            for source in sources:
                self.assertIsNone(self.compare(start, source.split(" ")))

    def test_every_beginning_of_the_samples(self):
        for start, sources in SAMPLES.items():
            for source in sources:
                tokens = source.split(" ")
                for many in range(len(tokens)):
                    self.compare(start, tokens[:many])

    def test_all_short_rows_of_tokens(self):
        for start, words in WORDS.items():
            for many in range(4):
                for tokens in itertools.product(words, repeat=many):
                    self.compare(start, list(tokens))

    def test_samples_with_changed_tokens(self):
        chosen = random.Random(1)
        faulty = 0
        for start, sources in SAMPLES.items():
            words = WORDS[start]
            for _ in range(400):
                tokens = chosen.choice(sources).split(" ")
                for _ in range(chosen.randint(1, 3)):
                    at = chosen.randrange(len(tokens))
                    tokens[at:at + chosen.randint(0, 1)] = chosen.choices(words, k=chosen.randint(0, 2))
                faulty += self.compare(start, tokens) is not None
        self.assertGreater(faulty, 500)


if __name__ == "__main__":
    unittest.main()
