"""Conditions and expressions as trees: their texts, their size and their depth."""

from migraproof.texts import ascending


def texts_of(tree):
    """The texts of the tree, ascending."""
    found = []
    waiting = [tree]
    while waiting:
        part = waiting.pop()
        if part[0] == "cell" and isinstance(part[1], str):
            found.append(part[1])
        waiting.extend(parts_of(part))
    return ascending(tuple(found))


def size(tree):
    """The number of nodes of the tree."""
    return 1 + sum([size(part) for part in parts_of(tree)])


def depth(tree):
    """How deeply the tree is nested."""
    parts = parts_of(tree)
    if is_comparison(tree) or not parts:
        return 0
    return 1 + max([depth(part) for part in parts])


def tree_renamed(tree, pairs):
    """The tree with the first texts of the pairs replaced by the second ones, all at once."""
    return with_new_texts(tree, dict(pairs))


def is_comparison(tree):
    """Whether the tree compares two operands."""
    return tree[0] in ("=", "!=")


def parts_of(tree):
    """The trees that the tree directly consists of, from left to right."""
    head = tree[0]
    if is_comparison(tree) or head == "not":
        return tree[1:]
    if head in ("and", "or"):
        return tree[1]
    if head == "if":
        parts = [part for branch in tree[1] for part in branch]
        return (*parts, tree[2])
    return ()


def with_new_texts(tree, news):
    """The tree with each text that is a key of the dict replaced by what stands there."""
    head = tree[0]
    if head == "cell":
        return (head, news.get(tree[1], tree[1]))
    if is_comparison(tree) or head == "not":
        parts = all_with_new_texts(tree[1:], news)
        return (head, *parts)
    if head in ("and", "or"):
        return (head, all_with_new_texts(tree[1], news))
    if head == "if":
        branches = tuple([all_with_new_texts(branch, news) for branch in tree[1]])
        return (head, branches, with_new_texts(tree[2], news))
    return tree


def all_with_new_texts(trees, news):
    """The tuple of the trees with new texts."""
    return tuple([with_new_texts(tree, news) for tree in trees])
