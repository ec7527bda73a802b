"""Tokens [280] and the first table of [283]."""

import unittest

from migraproof.tokens import tokens_of
from support import raised_text

RESERVED = ("table", "optional", "text", "null", "check", "and", "or", "not", "exists", "true", "false", "if", "then",
            "else", "drop", "when")
SYMBOLS = ("{", "}", "(", ")", ";", ".", "|", "=", "!=")
TEXT_CHARACTERS = "".join(chr(code) for code in range(32, 127) if chr(code) not in '"%')


def fault(place, reason):
    return f"TextError(place={place}, reason={reason!r})"


class Tokens(unittest.TestCase):
    def test_no_tokens(self):
        for source in ("", " ", "\n", "  \n \n\n "):
            self.assertEqual(tokens_of(source), ())

    def test_each_symbol(self):
        for symbol in SYMBOLS:
            with self.subTest(symbol=symbol):
                self.assertEqual(tokens_of(symbol), (("symbol", symbol, 0),))
                self.assertEqual(tokens_of(f" {symbol}a"), (("symbol", symbol, 1), ("word", "a", 1 + len(symbol))))

    def test_equal_and_unequal_side_by_side(self):
        self.assertEqual(tokens_of("!=="), (("symbol", "!=", 0), ("symbol", "=", 2)))
        self.assertEqual(tokens_of("=!="), (("symbol", "=", 0), ("symbol", "!=", 1)))
        self.assertEqual(tokens_of("=="), (("symbol", "=", 0), ("symbol", "=", 1)))
        self.assertEqual(tokens_of("!=!="), (("symbol", "!=", 0), ("symbol", "!=", 2)))

    def test_without_blanks_between_tokens(self):
        self.assertEqual(
            tokens_of('t.a="x"b|{c}(null);'),
            (("word", "t", 0), ("symbol", ".", 1), ("word", "a", 2), ("symbol", "=", 3), ("literal", "x", 4),
             ("word", "b", 7), ("symbol", "|", 8), ("symbol", "{", 9), ("word", "c", 10), ("symbol", "}", 11),
             ("symbol", "(", 12), ("word", "null", 13), ("symbol", ")", 17), ("symbol", ";", 18)))
        self.assertEqual(tokens_of('"a""b"'), (("literal", "a", 0), ("literal", "b", 3)))

    def test_blanks_before_between_and_behind(self):
        self.assertEqual(tokens_of(" \n a\n\n.  b \n"), (("word", "a", 3), ("symbol", ".", 6), ("word", "b", 9)))

    def test_reserved_words_are_words(self):
        source = " ".join(RESERVED)
        found = tokens_of(source)
        self.assertEqual([text for _, text, _ in found], list(RESERVED))
        for kind, text, place in found:
            self.assertEqual((kind, source[place:place + len(text)]), ("word", text))

    def test_words(self):
        for word in ("a", "z", "a0_9z", "x__", "true1", "abcdefghijklmnopqrst", "a1234567890123456789"):
            with self.subTest(word=word):
                self.assertEqual(tokens_of(word), (("word", word, 0),))

    def test_words_end_at_the_first_other_character(self):
        self.assertEqual(tokens_of("ab cd\nef"), (("word", "ab", 0), ("word", "cd", 3), ("word", "ef", 6)))

    def test_literals(self):
        for text in ("", " ", "a", "'", "=;(){}|.!", "!= ;", "123456789012", "_A9", "and"):
            with self.subTest(text=text):
                self.assertEqual(tokens_of(f'"{text}"'), (("literal", text, 0),))

    def test_each_character_of_a_text_in_a_literal(self):
        for character in TEXT_CHARACTERS:
            with self.subTest(character=character):
                self.assertEqual(tokens_of(f'"{character}"'), (("literal", character, 0),))

    def test_everything_is_a_tuple(self):
        found = tokens_of("a b")
        self.assertEqual([type(found), type(found[0]), type(found[1])], [tuple] * 3)


class Faults(unittest.TestCase):
    def check(self, source, place, reason):
        with self.subTest(source=source):
            self.assertEqual(raised_text(tokens_of, source), fault(place, reason))

    def test_word_too_long(self):
        self.check("abcdefghijklmnopqrstu", 0, "word too long")
        self.check("a12345678901234567890", 0, "word too long")
        self.check("ab " + "c" * 30 + ";", 3, "word too long")
        self.check("(" + "x_" * 11, 1, "word too long")

    def test_literal_not_closed(self):
        self.check('"', 0, "literal not closed")
        self.check('a "b', 2, "literal not closed")
        self.check('"a" "b', 4, "literal not closed")
        self.check('"a""', 3, "literal not closed")
        self.check('"ab\ncd"', 0, "literal not closed")
        self.check('"\n"', 0, "literal not closed")
        self.check('"ab\n', 0, "literal not closed")
        self.check('"a%b"', 0, "literal not closed")
        self.check('"a%', 0, "literal not closed")
        self.check('"a\tb"', 0, "literal not closed")
        self.check('"\x7f"', 0, "literal not closed")
        self.check('"\xe9"', 0, "literal not closed")

    def test_a_long_literal_that_is_not_closed(self):
        self.check('"' + "a" * 13, 0, "literal not closed")
        self.check('"' + "a" * 13 + '%"', 0, "literal not closed")
        self.check('"' + "a" * 13 + '\n"', 0, "literal not closed")

    def test_literal_too_long(self):
        self.check('"1234567890123"', 0, "literal too long")
        self.check('= "' + " " * 13 + '"', 2, "literal too long")
        self.check('"' + "a" * 100 + '"', 0, "literal too long")

    def test_unexpected_character(self):
        self.check("3", 0, "unexpected character")
        self.check("a 3b", 2, "unexpected character")
        self.check(" _a", 1, "unexpected character")
        self.check("A", 0, "unexpected character")
        self.check("aB", 1, "unexpected character")
        self.check("a!b", 1, "unexpected character")
        self.check("!", 0, "unexpected character")
        self.check("! =", 0, "unexpected character")
        self.check("=!", 1, "unexpected character")
        self.check("!!=", 0, "unexpected character")
        self.check("a%", 1, "unexpected character")
        self.check("\t", 0, "unexpected character")
        self.check("a\rb", 1, "unexpected character")
        self.check("\xe9", 0, "unexpected character")
        self.check("a\xb2", 1, "unexpected character")
        self.check("\x00", 0, "unexpected character")

    def test_every_other_character_begins_no_token(self):
        known = set('abcdefghijklmnopqrstuvwxyz{}();.|= \n!"')
        for character in (chr(code) for code in range(160)):
            if character not in known:
                self.check(f"a {character}", 2, "unexpected character")

    def test_the_first_fault_from_the_left_is_raised(self):
        self.check('3 "a', 0, "unexpected character")
        self.check('"1234567890123" 3', 0, "literal too long")
        self.check("a" * 21 + ' "', 0, "word too long")
        self.check('A "', 0, "unexpected character")
        self.check('"\n3', 0, "literal not closed")
        self.check("a ! " + "b" * 21, 2, "unexpected character")
        self.check('a; "x" % 1', 7, "unexpected character")
        self.check("a" * 21 + "B", 0, "word too long")
        self.check("a" * 20 + "B", 20, "unexpected character")


if __name__ == "__main__":
    unittest.main()
