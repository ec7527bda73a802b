"""Sample texts and spare texts [22], [24], and ascending texts [4]."""

import unittest

from migraproof.texts import ascending, sample_texts, spare_texts

BOTH = ((sample_texts, "v"), (spare_texts, "c"))


class SampleAndSpareTexts(unittest.TestCase):
    def test_without_constants_they_are_numbered_from_1(self):
        for made, letter in BOTH:
            with self.subTest(letter=letter):
                self.assertEqual(made(3), (letter + "1", letter + "2", letter + "3"))
                self.assertEqual(made(3, but=()), made(3))

    def test_none_at_all(self):
        for made, letter in BOTH:
            self.assertEqual(made(0), ())
            self.assertEqual(made(0, but=(letter + "1",)), ())

    def test_three_hundred(self):
        for made, letter in BOTH:
            found = made(300)
            self.assertIs(type(found), tuple)
            self.assertEqual(found, tuple(letter + str(k) for k in range(1, 301)))

    def test_three_hundred_beside_three_hundred_constants(self):
        for made, letter in BOTH:
            constants = tuple(sorted(letter + str(k) for k in range(2, 601, 2)))
            self.assertEqual(made(300, but=constants), tuple(letter + str(k) for k in range(1, 601, 2)))

    def test_constants_are_left_out(self):
        for made, letter in BOTH:
            constants = tuple(letter + number for number in ("1", "10", "3", "4"))
            self.assertEqual(made(4, but=constants), tuple(letter + number for number in ("2", "5", "6", "7")))
            self.assertEqual(made(8, but=constants)[-2:], (letter + "11", letter + "12"))

    def test_the_constants_of_the_other_letter_leave_nothing_out(self):
        self.assertEqual(sample_texts(2, but=("c1", "c2")), ("v1", "v2"))
        self.assertEqual(spare_texts(2, but=("v1", "v2")), ("c1", "c2"))

    def test_what_only_looks_like_them_leaves_nothing_out(self):
        for made, letter in BOTH:
            alike = (letter + "01", letter.upper() + "1", letter, letter + "0", letter + "1 ", " " + letter + "1", "",
                     letter + "1.", letter + letter + "1", letter + "+1", letter + "-1", "1")
            self.assertEqual(made(2, but=tuple(sorted(alike))), (letter + "1", letter + "2"))


class Ascending(unittest.TestCase):
    def test_no_texts(self):
        self.assertEqual(ascending(()), ())

    def test_duplicates_occur_once(self):
        self.assertEqual(ascending(("b", "a", "b", "a", "a")), ("a", "b"))
        self.assertEqual(ascending(("", "")), ("",))

    def test_the_empty_text_comes_first(self):
        self.assertEqual(ascending((" ", "a", "")), ("", " ", "a"))

    def test_the_order_is_that_of_strings(self):
        self.assertEqual(ascending(("c2", "c10")), ("c10", "c2"))
        self.assertEqual(ascending(("a", "B", "~", "!", "_", "1", "ab")), ("!", "1", "B", "_", "a", "ab", "~"))

    def test_its_own_result_stays_as_it_is(self):
        once = ascending(("v2", "", "v10", "x", "v1"))
        self.assertEqual(ascending(once), once)
        self.assertIs(type(once), tuple)


if __name__ == "__main__":
    unittest.main()
