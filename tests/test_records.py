"""Records, renamings and canonical forms [21] to [26]."""

import itertools
import unittest

from migraproof.records import canonical, exchanged, free_texts, renamed, renaming

NULLS = ((None, None), None)
VALUES = (("a",), ("v1",), ("x",))
# Ten places, among them missing rows, nulls, and values with the letters of texts.
TEN = (("b", None), None, (("b",), "a"), ("", "b"), None, (None,), ("a", "v1", "c"), (("x",),), ("x", "v3"), None)


def swapped(record, constants):
    """A similar record with other texts, in another way than by the package."""
    names = {}
    for cell in itertools.chain(*[row or () for row in record]):
        if isinstance(cell, str) and cell not in constants:
            names.setdefault(cell, f"new {len(names)}")
    return tuple([row and tuple([names.get(cell, cell) for cell in row]) for row in record])


class FreeTexts(unittest.TestCase):
    def test_point_26(self):
        self.assertEqual(free_texts((("v9", "x", "", "v9"),), ("x",)), ("v9", ""))
        self.assertEqual(canonical((("v9", "x", "", "v9"),), ("x",)), (("v1", "x", "v2", "v1"),))
        self.assertEqual(canonical((("v9", "x", "", "v9"),), ("v1", "x")), (("v2", "x", "v3", "v2"),))

    def test_the_order_of_first_occurrences(self):
        self.assertEqual(free_texts((("z", "a", "z"), ("m", "a", "b")), ()), ("z", "a", "m", "b"))

    def test_ten_places(self):
        self.assertEqual(free_texts(TEN, ()), ("b", "a", "", "v1", "c", "x", "v3"))
        self.assertEqual(free_texts(TEN, ("", "a", "v3", "x")), ("b", "v1", "c"))

    def test_none_at_all(self):
        for record in (NULLS, (VALUES,), (None,), ((None,), None, VALUES)):
            self.assertEqual(free_texts(record, ()), ())
        self.assertEqual(free_texts((("x", "y"), ("x",)), ("x", "y")), ())

    def test_values_are_no_texts(self):
        self.assertEqual(free_texts(((("a",), "b", ("b",)),), ()), ("b",))
        self.assertEqual(free_texts(((("x",), "x"),), ()), ("x",))
        self.assertEqual(free_texts(((("x",), "a"),), ("a",)), ())

    def test_three_hundred_constants(self):
        constants = tuple(sorted(f"k{number}" for number in range(300)))
        self.assertEqual(free_texts((("k0", "a", "k299", "k300", "k", "a"),), constants), ("a", "k300", "k"))


class Renamed(unittest.TestCase):
    def test_all_at_once(self):
        record = (("a", "b", "c"), None, ("b",))
        for pairs in (
            (("a", "b"), ("b", "c"), ("c", "a")), (("c", "a"), ("b", "c"), ("a", "b")),
        ):
            self.assertEqual(renamed(record, pairs), (("b", "c", "a"), None, ("c",)))
        self.assertEqual(renamed(record, (("a", "c"), ("c", "a"))), (("c", "b", "a"), None, ("b",)))

    def test_equal_second_places(self):
        self.assertEqual(renamed((("a", "b", "c"),), (("a", "z"), ("b", "z"))), (("z", "z", "c"),))
        self.assertEqual(renamed((("a", "b", "c"),), (("a", "c"),)), (("c", "b", "c"),))

    def test_first_places_that_do_not_occur(self):
        self.assertEqual(renamed(TEN, (("other", "b"), ("B", "c"), ("b ", "d"))), TEN)
        self.assertEqual(renamed(TEN, ()), TEN)

    def test_the_empty_text(self):
        self.assertEqual(renamed((("", "a", None),), (("", "a"), ("a", ""))), (("a", "", None),))

    def test_nulls_values_and_missing_rows_stay(self):
        pairs = (("a", "1"), ("b", "2"), ("x", "3"), ("v1", "4"))
        self.assertEqual(renamed((None, (None, ("a",), ("v1",)), (("x",), "x")), pairs),
                         (None, (None, ("a",), ("v1",)), (("x",), "3")))

    def test_sixty_pairs(self):
        pairs = tuple((f"a{number}", f"b{59 - number}") for number in range(60))
        self.assertEqual(renamed((("a0", "a59", "a60"),), pairs), (("b59", "b0", "a60"),))

    def test_everything_is_a_tuple(self):
        found = renamed(TEN, (("a", "q"),))
        self.assertEqual({type(part) for part in (found, *[row for row in found if row is not None])}, {tuple})


class Exchanged(unittest.TestCase):
    def test_in_all_cells(self):
        self.assertEqual(exchanged((("a", "b"), None, ("b", "c", "a")), "a", "b"), (("b", "a"), None, ("a", "c", "b")))

    def test_one_that_does_not_occur(self):
        self.assertEqual(exchanged((("a", "c"),), "a", "b"), (("b", "c"),))
        self.assertEqual(exchanged((("a", "c"),), "b", "a"), (("b", "c"),))
        self.assertEqual(exchanged((("c",),), "a", "b"), (("c",),))

    def test_the_same_text_twice(self):
        for text in ("a", "b", "", "other"):
            self.assertEqual(exchanged(TEN, text, text), TEN)

    def test_twice_in_a_row(self):
        for first, second in (("a", "b"), ("b", ""), ("x", "other"), ("other", "more")):
            self.assertEqual(exchanged(exchanged(TEN, first, second), first, second), TEN)

    def test_values_stay(self):
        self.assertEqual(exchanged(((("a",), "a", ("b",)),), "a", "b"), ((("a",), "b", ("b",)),))


class Canonical(unittest.TestCase):
    def test_all_at_once(self):
        self.assertEqual(canonical((("v2", "v1", "v2"),), ()), (("v1", "v2", "v1"),))
        self.assertEqual(canonical((("v3", "v1"), ("v2",)), ()), (("v1", "v2"), ("v3",)))

    def test_constants_stay(self):
        self.assertEqual(canonical((("b", "x", "a", "x"),), ("x",)), (("v1", "x", "v2", "x"),))
        self.assertEqual(canonical((("v1", "v2", "v3"),), ("v1", "v2")), (("v1", "v2", "v3"),))
        self.assertEqual(canonical((("v3", "v1", "v4", "v2"),), ("v1", "v3")), (("v3", "v1", "v2", "v4"),))

    def test_ten_places(self):
        self.assertEqual(
            canonical(TEN, ("v2", "x")),
            (("v1", None), None, (("b",), "v3"), ("v4", "v1"), None, (None,), ("v3", "v5", "v6"), (("x",),),
             ("x", "v7"), None))

    def test_without_free_texts_nothing_changes(self):
        for record in (NULLS, (VALUES,), (None,), (("x", "y"), None)):
            self.assertEqual(canonical(record, ("x", "y")), record)

    def test_a_canonical_form_is_its_own(self):
        for constants in ((), ("a",), ("v1",), ("", "v2", "x"), ("v1", "v2", "v3")):
            once = canonical(TEN, constants)
            self.assertEqual(canonical(once, constants), once)

    def test_similar_records_have_the_same(self):
        for constants in ((), ("a",), ("b", "v1")):
            self.assertEqual(canonical(swapped(TEN, constants), constants), canonical(TEN, constants))


class Renaming(unittest.TestCase):
    def test_similar_records(self):
        self.assertEqual(renaming((("a", "x", "b", "a"),), (("b", "x", "c", "b"),), ("x",)), (("a", "b"), ("b", "c")))
        self.assertEqual(renaming(((("s",), "a"), None), ((("s",), "q"), None), ()), (("a", "q"),))
        self.assertEqual(renaming(((None, "z"), ("y",)), ((None, "y"), ("z",)), ()), (("z", "y"), ("y", "z")))

    def test_the_same_record(self):
        self.assertEqual(renaming((("b", "a"),), (("b", "a"),), ()), (("b", "b"), ("a", "a")))

    def test_the_pairs_lead_from_one_to_the_other(self):
        for constants in ((), ("a",), ("b", "v1")):
            other = swapped(TEN, constants)
            self.assertEqual(renamed(TEN, renaming(TEN, other, constants)), other)
            self.assertEqual(renamed(other, renaming(other, TEN, constants)), TEN)

    def test_no_free_texts_at_all(self):
        for record in (NULLS, (VALUES,), (None,), (("x", "x"), None)):
            self.assertEqual(renaming(record, record, ("x",)), ())

    def test_a_merged_text(self):
        self.assertIsNone(renaming((("a", "b"),), (("c", "c"),), ()))
        self.assertIsNone(renaming((("c", "c"),), (("a", "b"),), ()))
        self.assertIsNone(renaming((("a", "b", "a"),), (("a", "b", "b"),), ()))

    def test_a_constant_in_the_place_of_a_free_text(self):
        self.assertIsNone(renaming((("a",),), (("x",),), ("x",)))
        self.assertIsNone(renaming((("x",),), (("a",),), ("x",)))
        self.assertIsNone(renaming((("x", "y"),), (("y", "x"),), ("x", "y")))
        self.assertIsNone(renaming((("v1",),), (("v2",),), ("v1",)))

    def test_a_missing_row(self):
        self.assertIsNone(renaming((("a",), None), (("a",), ("b",)), ()))
        self.assertIsNone(renaming((("a",), (None,)), (("a",), None), ()))
        self.assertIsNone(renaming((("a",), None), (None, ("a",)), ()))

    def test_another_number_of_places_or_of_cells(self):
        self.assertIsNone(renaming((("a",),), (("a",), None), ()))
        self.assertIsNone(renaming((("a",), None), (("a",),), ()))
        self.assertIsNone(renaming((("a", None),), (("a",),), ()))
        self.assertIsNone(renaming((("a", "b"), ("c",)), (("a",), ("b", "c")), ()))

    def test_another_value_or_a_null(self):
        self.assertIsNone(renaming(((("s",), "a"),), ((("t",), "a"),), ()))
        self.assertIsNone(renaming(((("s",),),), ((None,),), ()))
        self.assertIsNone(renaming((("a",),), ((None,),), ()))
        self.assertIsNone(renaming(((None,),), (("a",),), ()))
        self.assertIsNone(renaming(((("a",),),), (("a",),), ()))

    def test_against_the_definition(self):
        cells = (None, "x", "a", "b", ("a",))
        records = [(row,) for row in itertools.product(cells, repeat=3)]
        for first, second in itertools.product(records, repeat=2):
            pairs = set(zip(first[0], second[0]))
            texts = {(old, new) for old, new in pairs if {old, new} <= {"a", "b"}}
            others = pairs - texts
            similar = (all(old == new for old, new in others)
                       and len({old for old, _ in texts}) == len(texts) == len({new for _, new in texts}))
            found = renaming(first, second, ("x",))
            self.assertEqual(found is not None, similar, (first, second))
            if similar:
                self.assertEqual(set(found), texts)
                self.assertEqual(renamed(first, found), second)


if __name__ == "__main__":
    unittest.main()
