"""The examples of the document, word for word, in its order; later ones use the names of earlier ones."""

import unittest

from support import check_examples

TEXTS = """
>>> from migraproof.texts import sample_texts, spare_texts, ascending
>>> sample_texts(3, but=("v1", "v3"))
('v2', 'v4', 'v5')
>>> spare_texts(2)
('c1', 'c2')
>>> ascending(("b", "", "c2", "b", "c10"))
('', 'b', 'c10', 'c2')
"""

TREES = """
>>> from migraproof.trees import texts_of, size, depth, tree_renamed
>>> unlike = ("!=", ("column", "t", "a"), ("cell", "x"))
>>> choice = ("if", ((unlike, ("column", "t", "a")), (("exists", "u"), ("cell", "y"))), ("cell", None))
>>> (texts_of(choice), size(choice), depth(choice))
(('x', 'y'), 8, 1)
>>> tree_renamed(unlike, (("x", "y"), ("t", "z")))
('!=', ('column', 't', 'a'), ('cell', 'y'))
"""

TOKENS = """
>>> from migraproof.tokens import tokens_of
>>> tokens_of('a != "x y" ;')
(('word', 'a', 0), ('symbol', '!=', 2), ('literal', 'x y', 5), ('symbol', ';', 11))
>>> tokens_of('ab 3')
raises TextError(place=3, reason='unexpected character')
"""


class Examples(unittest.TestCase):
    def test_examples_of_the_interface(self):
        names = {}
        for text in (TEXTS, TREES, TOKENS):
            check_examples(self, text, names)


if __name__ == "__main__":
    unittest.main()
