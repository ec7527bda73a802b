"""Trees [40] to [43]: texts, size, depth, and renaming."""

import unittest

from migraproof.trees import depth, size, texts_of, tree_renamed

A = ("column", "t", "a")
B = ("column", "t", "b")
NULL = ("cell", None)
X = ("cell", "x")
Y = ("cell", "y")
ON = ("cell", ("on",))
TRUE = ("true",)
FALSE = ("false",)
HAS = ("exists", "u")
IS_X = ("=", A, X)
IS_Y = ("!=", Y, A)
INNER = ("if", ((("and", (IS_Y, HAS)), Y),), NULL)
OUTER = ("if", ((IS_X, INNER), (("not", HAS), B)), ("cell", "z"))

# Each tree with its texts, its size and its depth.
TREES = (
    (NULL, (), 1, 0),
    (X, ("x",), 1, 0),
    (("cell", ""), ("",), 1, 0),
    (ON, (), 1, 0),
    (A, (), 1, 0),
    (TRUE, (), 1, 0),
    (FALSE, (), 1, 0),
    (HAS, (), 1, 0),
    (("=", A, B), (), 3, 0),
    (IS_X, ("x",), 3, 0),
    (IS_Y, ("y",), 3, 0),
    (("=", X, X), ("x",), 3, 0),
    (("=", Y, X), ("x", "y"), 3, 0),
    (("not", TRUE), (), 2, 1),
    (("not", IS_X), ("x",), 4, 1),
    (("not", ("not", HAS)), (), 3, 2),
    (("and", (TRUE, HAS)), (), 3, 1),
    (("and", (IS_X, IS_X)), ("x",), 7, 1),
    (("or", (IS_Y, HAS, FALSE, IS_X)), ("x", "y"), 9, 1),
    (("and", (TRUE, ("or", (TRUE, ("not", HAS), FALSE)), TRUE)), (), 8, 3),
    (("or", (("and", (TRUE, ("not", HAS))), FALSE)), (), 6, 3),
    (("if", ((TRUE, A),), B), (), 4, 1),
    (("if", ((TRUE, A),), X), ("x",), 4, 1),
    (("if", ((HAS, X), (IS_Y, A), (TRUE, X)), NULL), ("x", "y"), 10, 1),
    (INNER, ("y",), 8, 2),
    (OUTER, ("x", "y", "z"), 16, 3),
)


def chain_of(depth_of_chain, inside):
    for _ in range(depth_of_chain):
        inside = ("not", inside)
    return inside


class TextsSizeDepth(unittest.TestCase):
    def test_texts(self):
        for tree, texts, _, _ in TREES:
            with self.subTest(tree=tree):
                self.assertEqual(texts_of(tree), texts)
                self.assertIs(type(texts_of(tree)), tuple)

    def test_sizes(self):
        for tree, _, nodes, _ in TREES:
            with self.subTest(tree=tree):
                self.assertEqual(size(tree), nodes)

    def test_depths(self):
        for tree, _, _, levels in TREES:
            with self.subTest(tree=tree):
                self.assertEqual(depth(tree), levels)

    def test_texts_are_ascending(self):
        tree = ("and", tuple(("=", A, ("cell", text)) for text in ("c2", "c10", "", "b", "c2")))
        self.assertEqual(texts_of(tree), ("", "b", "c10", "c2"))

    def test_only_texts_of_cells_are_texts(self):
        tree = ("if", ((("and", (("exists", "table_x"), ("=", ("column", "u", "c"), ("cell", ("w",))))), ON),), A)
        self.assertEqual(texts_of(tree), ())

    def test_a_chain_of_depth_10(self):
        tree = chain_of(10, IS_X)
        self.assertEqual((texts_of(tree), size(tree), depth(tree)), (("x",), 13, 10))

    def test_the_depth_counts_the_deepest_part_wherever_it_stands(self):
        deep = chain_of(4, HAS)
        for tree in (
            ("and", (deep, TRUE)), ("and", (TRUE, deep)), ("or", (TRUE, deep, TRUE)), ("if", ((deep, A),), B),
            ("if", ((TRUE, A), (deep, A)), B), ("if", ((TRUE, ("if", ((chain_of(3, HAS), A),), A)),), B),
        ):
            with self.subTest(tree=tree):
                self.assertEqual(depth(tree), 5)

    def test_a_large_tree(self):
        tree = ("or", tuple(("and", (IS_X, ("not", IS_Y))) for _ in range(5000)))
        self.assertEqual((texts_of(tree), size(tree), depth(tree)), (("x", "y"), 40001, 3))


class TreeRenamed(unittest.TestCase):
    def test_every_kind_of_tree(self):
        pairs = (("x", "1"), ("y", "2"))
        x, y = ("cell", "1"), ("cell", "2")
        is_x, is_y = ("=", A, x), ("!=", y, A)
        inner = ("if", ((("and", (is_y, HAS)), y),), NULL)
        for tree, new in (
            (X, x), (NULL, NULL), (ON, ON), (A, A), (TRUE, TRUE), (FALSE, FALSE), (HAS, HAS), (IS_X, is_x),
            (IS_Y, is_y), (("not", IS_X), ("not", is_x)), (("or", (IS_X, TRUE, IS_Y)), ("or", (is_x, TRUE, is_y))),
            (INNER, inner), (("if", ((IS_X, INNER), (HAS, B)), X), ("if", ((is_x, inner), (HAS, B)), x)),
        ):
            with self.subTest(tree=tree):
                self.assertEqual(tree_renamed(tree, pairs), new)

    def test_all_at_once(self):
        tree = ("if", ((("=", X, Y), X),), Y)
        self.assertEqual(tree_renamed(tree, (("x", "y"), ("y", "x"))), ("if", ((("=", Y, X), Y),), X))
        chained = ("=", ("cell", "a"), ("cell", "b"))
        for pairs in ((("a", "b"), ("b", "c")), (("b", "c"), ("a", "b"))):
            self.assertEqual(tree_renamed(chained, pairs), ("=", ("cell", "b"), ("cell", "c")))

    def test_second_texts_may_be_equal(self):
        self.assertEqual(tree_renamed(("=", X, Y), (("x", "z"), ("y", "z"))), ("=", ("cell", "z"), ("cell", "z")))

    def test_nothing_to_replace(self):
        for tree, _, _, _ in TREES:
            self.assertEqual(tree_renamed(tree, ()), tree)
            self.assertEqual(tree_renamed(tree, (("other", "x"), ("X", "y"), ("x ", "z"))), tree)

    def test_the_empty_text(self):
        self.assertEqual(tree_renamed(("=", ("cell", ""), X), (("", "x"), ("x", ""))), ("=", X, ("cell", "")))

    def test_names_and_values_with_the_same_letters_stay(self):
        words = ("t", "a", "on", "u", "cell", "column", "exists", "true", "false", "not", "and", "or", "if", "=", "!=")
        pairs = tuple((word, "z") for word in words)
        tree = ("if", ((("and", (("not", ("exists", "u")), ("or", (TRUE, FALSE)), ("=", A, ON), ("!=", B, ON))), A),),
                ON)
        self.assertEqual(tree_renamed(tree, pairs), tree)
        self.assertEqual(tree_renamed(("=", A, ("cell", "a")), pairs), ("=", A, ("cell", "z")))

    def test_a_chain_of_depth_10(self):
        self.assertEqual(tree_renamed(chain_of(10, IS_X), (("x", "y"),)), chain_of(10, ("=", A, Y)))


if __name__ == "__main__":
    unittest.main()
