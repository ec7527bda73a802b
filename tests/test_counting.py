"""Candidates, their number and their order [80], [81], [84]."""

import itertools
import unittest

from migraproof.counting import candidate_at, many_candidates, number_of
from migraproof.records import canonical, renamed
from migraproof.schemas import fits
from samples import MIDDLE, OPTIONAL, PAIR, SMALL, SOME_CONSTANTS, listed, table, text, values


class Point84(unittest.TestCase):
    def test_the_candidates(self):
        cells = (("x", None), ("x", "x"), ("x", "v1"), ("v1", None), ("v1", "x"), ("v1", "v1"), ("v1", "v2"))
        self.assertEqual(many_candidates(PAIR, 1), 7)
        for number, row in enumerate(cells):
            self.assertEqual(candidate_at(PAIR, ("x",), number), (row,))
            self.assertEqual(number_of(PAIR, ("x",), (row,)), number)


class SmallSchemas(unittest.TestCase):
    def each(self):
        return [(schema, constants, listed(schema, constants)) for schema in SMALL for constants in SOME_CONSTANTS]

    def test_how_many(self):
        for schema, constants, candidates in self.each():
            found = many_candidates(schema, len(constants))
            self.assertEqual((type(found), found), (int, len(candidates)))

    def test_each_candidate_and_its_number_back(self):
        for schema, constants, candidates in self.each():
            for number, candidate in enumerate(candidates):
                self.assertEqual(candidate_at(schema, constants, number), candidate)
                self.assertEqual(number_of(schema, constants, candidate), number)

    def test_each_candidate_is_canonical_fits_and_is_another_one(self):
        for schema, constants, candidates in self.each():
            self.assertEqual(len(set(candidates)), len(candidates))
            for number in range(many_candidates(schema, len(constants))):
                found = candidate_at(schema, constants, number)
                self.assertEqual(canonical(found, constants), found)
                self.assertTrue(fits(schema, found) or found == (None, None) and schema == OPTIONAL)

    def test_every_record_that_fits_has_the_number_of_its_canonical_form(self):
        cells = (None, "x", "p", "q", ("w0",), ("w1",))
        rows = [None, *itertools.product(cells, repeat=2)]
        records = [record for record in itertools.product([(cell,) for cell in cells] + [None], rows)
                   if fits(OPTIONAL, record)]
        self.assertGreater(len(records), 40)
        candidates = listed(OPTIONAL, ("x",))
        for record in records:
            self.assertEqual(candidates[number_of(OPTIONAL, ("x",), record)], canonical(record, ("x",)))

    def test_the_checks_play_no_part(self):
        for checks in ((), (("false",),)):
            schema = (PAIR[0], checks)
            self.assertEqual(many_candidates(schema, 1), 7)
            self.assertEqual(candidate_at(schema, ("x",), 6), (("v1", "v2"),))
            self.assertEqual(number_of(schema, ("x",), (("p", "p"),)), 5)


class Counts(unittest.TestCase):
    def test_single_columns(self):
        for many in (0, 1, 7, 300):
            for columns, expected in (
                ((text("a"),), many + 1), ((text("a", True),), many + 2), ((values("s", 1),), 1),
                ((values("s", 1, True),), 2), ((values("s", 300),), 300), ((values("s", 300, True),), 301),
                ((text("a"), values("s", 4)), 4 * (many + 1)), ((values("s", 4, True), text("a")), 5 * (many + 1)),
            ):
                with self.subTest(many=many, columns=columns):
                    self.assertEqual(many_candidates(((table("t", *columns),), ()), many), expected)
                    self.assertEqual(many_candidates(((table("t", *columns, optional=True),), ()), many), expected + 1)

    def test_two_text_columns(self):
        for many in (0, 1, 7, 300):
            schema = ((table("t", text("a"), text("b")),), ())
            self.assertEqual(many_candidates(schema, many), many * (many + 1) + many + 2)

    def test_the_bell_numbers(self):
        bells = (1, 2, 5, 15, 52, 203, 877, 4140, 21147, 115975)
        for number, bell in enumerate(bells):
            columns = tuple(text(f"a{at}") for at in range(number + 1))
            self.assertEqual(many_candidates(((table("t", *columns),), ()), 0), bell)
            halves = tuple(table(f"t{at}", column) for at, column in enumerate(columns))
            self.assertEqual(many_candidates((halves, ()), 0), bell)

    def test_all_tables_optional(self):
        self.assertEqual(candidate_at(OPTIONAL, ("x",), 0), (None, None))
        self.assertEqual(number_of(OPTIONAL, ("x",), (None, None)), 0)
        eight = (tuple(table(f"t{number}", values("s", 1), optional=True) for number in range(8)), ())
        self.assertEqual(many_candidates(eight, 5), 256)
        self.assertEqual(candidate_at(eight, (), 255), ((("w0",),),) * 8)
        self.assertEqual(candidate_at(eight, (), 1), (None,) * 7 + ((("w0",),),))
        self.assertEqual(number_of(eight, (), ((("w0",),),) + (None,) * 7), 128)

    def test_a_table_without_a_row_uses_no_sample_texts(self):
        self.assertEqual(candidate_at(MIDDLE, (), 0), (None, ("v1",), None))
        last = many_candidates(MIDDLE, 0) - 1
        self.assertEqual(candidate_at(MIDDLE, (), last), (("v1", "v2"), ("v3",), ("v4",)))


class LargeNumbers(unittest.TestCase):
    def setUp(self):
        self.constants = tuple(sorted(f"k{number}" for number in range(300)))
        tables = [table(f"t{place}", text("a", True), values("s", 300, True), text("b"), optional=place > 3)
                  for place in range(7)]
        self.within = (tuple(tables[:6]), ())
        columns = [text(f"a{number}", number % 2 == 0) for number in range(60)]
        self.beyond = ((table("t", *columns), table("u", text("c"), optional=True)), ())

    def test_there_are_more_than_100_digits(self):
        self.assertGreater(many_candidates(self.within, 300), 10 ** 40)
        self.assertGreater(many_candidates(self.beyond, 300), 10 ** 140)

    def test_the_first_and_the_last_candidate(self):
        first = candidate_at(self.within, self.constants, 0)
        self.assertEqual(first, ((None, None, "k0"),) * 4 + (None,) * 2)
        many = many_candidates(self.within, 300)
        last = candidate_at(self.within, self.constants, many - 1)
        self.assertEqual(last[5], ("v11", ("w299",), "v12"))
        for schema in (self.within, self.beyond):
            many = many_candidates(schema, 300)
            for number in (0, many - 1):
                self.assertEqual(number_of(schema, self.constants, candidate_at(schema, self.constants, number)),
                                 number)

    def test_from_the_number_and_back(self):
        for schema in (self.within, self.beyond):
            for constants in (self.constants, (), self.constants[:7]):
                many = many_candidates(schema, len(constants))
                for number in {many * part // 97 for part in range(97)} | {1, many // 2, many - 2}:
                    candidate = candidate_at(schema, constants, number)
                    self.assertEqual(number_of(schema, constants, candidate), number)
                    self.assertEqual(canonical(candidate, constants), candidate)

    def test_the_last_choice_varies_fastest(self):
        row = candidate_at(self.beyond, (), 10 ** 30)[0]
        number = number_of(self.beyond, (), (row, None))
        used = len({cell for cell in row if cell is not None})
        for step in range(1, used + 2):
            self.assertEqual(candidate_at(self.beyond, (), number + step), (row, (f"v{step}",)))
        self.assertNotEqual(candidate_at(self.beyond, (), number + used + 2)[0], row)

    def test_twenty_columns_of_ten_values(self):
        schema = ((table("t", *[values(f"s{number}", 10) for number in range(20)]),), ())
        self.assertEqual(many_candidates(schema, 9), 10 ** 20)
        digits = "73059118840261759302"
        record = (tuple((f"w{digit}",) for digit in digits),)
        self.assertEqual(number_of(schema, (), record), int(digits))
        self.assertEqual(candidate_at(schema, (), int(digits)), record)


class SimilarRecords(unittest.TestCase):
    def test_the_number_of_a_record_that_is_not_canonical(self):
        for record, number in (((("p", None),), 3), ((("v2", "x"),), 4), ((("x", ""),), 2), ((("p", "p"),), 5),
                               ((("v2", "v1"),), 6), ((("c", "v1"),), 6), ((("x", "x"),), 1)):
            self.assertEqual(number_of(PAIR, ("x",), record), number)

    def test_constants_that_look_like_sample_texts(self):
        constants = ("v1", "v3")
        self.assertEqual([candidate_at(PAIR, constants, number)[0] for number in range(many_candidates(PAIR, 2))], [
            ("v1", None), ("v1", "v1"), ("v1", "v3"), ("v1", "v2"),
            ("v3", None), ("v3", "v1"), ("v3", "v3"), ("v3", "v2"),
            ("v2", None), ("v2", "v1"), ("v2", "v3"), ("v2", "v2"), ("v2", "v4")])
        self.assertEqual(number_of(PAIR, constants, (("v4", "v2"),)), 12)
        self.assertEqual(number_of(PAIR, constants, (("v2", "v4"),)), 12)

    def test_renaming_does_not_change_the_number(self):
        for candidate in listed(MIDDLE, ("x",)):
            other = renamed(candidate, (("v1", "v2"), ("v2", "q"), ("v3", "v1"), ("v4", "")))
            self.assertEqual(number_of(MIDDLE, ("x",), other), number_of(MIDDLE, ("x",), candidate))

    def test_values_with_the_letters_of_sample_texts(self):
        schema = ((table("t", ("s", ("v1", "v2"), False), text("a"), text("b")),), ())
        self.assertEqual([candidate_at(schema, (), number)[0] for number in range(4)], [
            (("v1",), "v1", "v1"), (("v1",), "v1", "v2"), (("v2",), "v1", "v1"), (("v2",), "v1", "v2")])
        self.assertEqual(number_of(schema, (), ((("v2",), "q", "p"),)), 3)


if __name__ == "__main__":
    unittest.main()
