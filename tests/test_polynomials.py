"""Polynomials and their signs [120], [121]."""

import itertools
import random
import unittest

from migraproof.polynomials import added, compare, falling, multiplied, signs, value_at

BILLION = 10 ** 9


def product(*polynomials):
    """The product, worked out by the coefficients."""
    found = [1]
    for polynomial in polynomials:
        news = [0] * (len(found) + len(polynomial))
        for (at, left), (other, right) in itertools.product(enumerate(found), enumerate(polynomial)):
            news[at + other] += left * right
        found = news
    while found and not found[-1]:
        found.pop()
    return tuple(found)


def plus(polynomial, number):
    """The polynomial with the number added."""
    found = [*polynomial] or [0]
    found[0] += number
    return tuple(found) if any(found) else ()


def with_roots(*roots):
    return product(*[(-root, 1) for root in roots])


def value(polynomial, n):
    return sum(coefficient * n ** power for power, coefficient in enumerate(polynomial))


def sign_of(number):
    return 0 if number == 0 else 1 if number > 0 else -1


def tried(polynomial, last):
    """The signs up to the last n, by trying all."""
    found = [(0, sign_of(value(polynomial, 0)))]
    for n in range(1, last + 1):
        sign = sign_of(value(polynomial, n))
        if sign != found[-1][1]:
            found.append((n, sign))
    return tuple(found)


class Arithmetic(unittest.TestCase):
    def test_values(self):
        for polynomial in ((), (7,), (-3, 4), (1, -2, 1), (0, 0, 0, 5), (1, -1, 1, -1, 1, -1, 1, -1, 1)):
            for n in (-BILLION, -3, -1, 0, 1, 2, 5, BILLION):
                found = value_at(polynomial, n)
                self.assertEqual((type(found), found), (int, value(polynomial, n)))

    def test_sums(self):
        for first, second, expected in (
            ((), (), ()), ((), (1, 2), (1, 2)), ((1, 2), (3, -2), (4,)), ((1, 2), (-1, -2), ()),
            ((0, 0, 3), (5,), (5, 0, 3)), ((1, 1, 1), (0, -1, -1), (1,)), ((0, 1), (0, 0, 0, 2), (0, 1, 0, 2)),
            ((BILLION,), (BILLION,), (2 * BILLION,)), ((0, 0, 4), (1, 0, -4), (1,)),
        ):
            self.assertEqual(added(first, second), expected)
            self.assertEqual(added(second, first), expected)

    def test_a_polynomial_added_to_its_negative_is_zero(self):
        for polynomial in ((1,), (0, 0, 7), (BILLION,) * 9, (3, -4, 1)):
            self.assertEqual(added(polynomial, multiplied(polynomial, (-1,))), ())

    def test_products(self):
        for first, second, expected in (
            ((), (), ()), ((), (1, 2), ()), ((1,), (3, 4), (3, 4)), ((1, 1), (1, -1), (1, 0, -1)),
            ((0, 1), (0, 0, 2), (0, 0, 0, 2)), ((-1, 1), (-2, 1), (2, -3, 1)), ((2,), (-3,), (-6,)),
        ):
            self.assertEqual(multiplied(first, second), expected)
            self.assertEqual(multiplied(second, first), expected)

    def test_nine_coefficients(self):
        large = tuple(BILLION - at for at in range(9))
        found = multiplied(large, large)
        self.assertEqual((len(found), found), (17, product(large, large)))
        self.assertIs(type(found), tuple)

    def test_values_of_sums_and_products(self):
        rng = random.Random(2)
        for _ in range(60):
            first, second = [tuple(rng.randint(-9, 9) for _ in range(rng.randint(0, 6))) + (rng.choice((-1, 2)),)
                             for _ in range(2)]
            for n in (-4, 0, 1, 3, 11):
                self.assertEqual(value_at(added(first, second), n), value_at(first, n) + value_at(second, n))
                self.assertEqual(value_at(multiplied(first, second), n), value_at(first, n) * value_at(second, n))

    def test_falling(self):
        self.assertEqual(falling(0, 0), (1,))
        self.assertEqual(falling(300, 0), (1,))
        self.assertEqual(falling(0, 1), (0, 1))
        self.assertEqual(falling(2, 2), (6, -5, 1))
        self.assertEqual(falling(0, 3), (0, 2, -3, 1))
        for start in (0, 1, 7, 300):
            for many in range(9):
                self.assertEqual(falling(start, many), with_roots(*range(start, start + many)))
        self.assertEqual(len(falling(300, 8)), 9)


class Signs(unittest.TestCase):
    def check(self, polynomial, expected):
        with self.subTest(polynomial=polynomial):
            found = signs(polynomial)
            self.assertEqual(found, expected)
            for pair in found:
                self.assertEqual([type(pair), *map(type, pair)], [tuple, int, int])

    def test_the_document_s_example(self):
        self.check((3, -4, 1), ((0, 1), (1, 0), (2, -1), (3, 0), (4, 1)))

    def test_constants(self):
        self.check((), ((0, 0),))
        self.check((5,), ((0, 1),))
        self.check((-BILLION,), ((0, -1),))

    def test_lines(self):
        self.check((0, 1), ((0, 0), (1, 1)))
        self.check((0, -3), ((0, 0), (1, -1)))
        self.check((-1, 2), ((0, -1), (1, 1)))
        self.check((5, -2), ((0, 1), (3, -1)))
        self.check((1, 1), ((0, 1),))
        self.check((-4 * BILLION, 1), ((0, -1), (4 * BILLION, 0), (4 * BILLION + 1, 1)))
        self.check((-2 * BILLION, BILLION), ((0, -1), (2, 0), (3, 1)))

    def test_products_of_up_to_eight_factors_with_small_roots(self):
        rng = random.Random(3)
        for many in range(9):
            for _ in range(25):
                roots = [rng.randint(-2, 12) for _ in range(many)]
                for factor in (1, -3):
                    polynomial = product(with_roots(*roots), (factor,))
                    self.check(polynomial, tried(polynomial, 40))

    def test_equal_and_neighboring_roots(self):
        for roots in ((4, 4), (4, 5), (4, 4, 5), (4, 5, 5, 6), (0, 0), (0, 1), (1,) * 8, (2, 3, 4, 5, 6, 7, 8, 9),
                      (3,) * 7, (3, 3, 3, 4, 4, 4), (0, 0, 1, 1, 2, 2, 3, 3), (9, 11), (9, 9, 11, 11)):
            self.check(with_roots(*roots), tried(with_roots(*roots), 50))

    def test_a_small_number_added(self):
        rng = random.Random(4)
        for many in range(2, 9):
            for _ in range(12):
                roots = sorted(rng.randint(0, 15) for _ in range(many))
                for number in (-2, -1, 1, 2):
                    polynomial = plus(with_roots(*roots), number)
                    self.check(polynomial, tried(polynomial, 60))

    def test_roots_between_two_integers(self):
        # (2 n - 5) (2 n - 11), (2 n - 5) (2 n - 7), and both roots of (5 n - 16) (5 n - 17) between 3 and 4.
        self.check(product((-5, 2), (-11, 2)), ((0, 1), (3, -1), (6, 1)))
        self.check(product((-5, 2), (-7, 2)), ((0, 1), (3, -1), (4, 1)))
        self.check(product((-16, 5), (-17, 5)), ((0, 1),))
        self.check((-2, 0, 1), ((0, -1), (2, 1)))

    def test_great_roots(self):
        far = 4 * BILLION
        self.check(with_roots(far, far), ((0, 1), (far, 0), (far + 1, 1)))
        self.check(with_roots(far, far + 1), ((0, 1), (far, 0), (far + 2, 1)))
        self.check(with_roots(far - 1, far + 1), ((0, 1), (far - 1, 0), (far, -1), (far + 1, 0), (far + 2, 1)))
        self.check(with_roots(0, 7, BILLION, BILLION, far, far, far + 5, far + 6),
                   ((0, 0), (1, -1), (7, 0), (8, 1), (BILLION, 0), (BILLION + 1, 1), (far, 0), (far + 1, 1),
                    (far + 5, 0), (far + 7, 1)))
        self.check(plus(with_roots(far, far), 1), ((0, 1),))
        self.check(plus(with_roots(far, far), -1),
                   ((0, 1), (far - 1, 0), (far, -1), (far + 1, 0), (far + 2, 1)))
        self.check(plus(with_roots(far, far, far), -1), ((0, -1), (far + 1, 0), (far + 2, 1)))

    def test_great_coefficients(self):
        self.check((-BILLION,) * 8 + (BILLION,), ((0, -1), (2, 1)))
        self.check((BILLION,) * 9, ((0, 1),))
        self.check((-1, *[-BILLION] * 7, 1), ((0, -1), (BILLION + 1, 1)))
        self.check((0,) * 7 + (-BILLION, 1), ((0, 0), (1, -1), (BILLION, 0), (BILLION + 1, 1)))
        alternating = tuple(BILLION * (-1) ** power for power in range(9))
        self.check(alternating, tried(alternating, 50))

    def test_the_first_pair_and_each_later_one(self):
        rng = random.Random(6)
        for _ in range(200):
            polynomial = tuple(rng.randint(-10 ** rng.randint(0, 9), 10 ** rng.randint(0, 9))
                               for _ in range(rng.randint(1, 9)))
            polynomial = added(polynomial, ())
            found = signs(polynomial)
            self.assertEqual(found[0], (0, sign_of(value(polynomial, 0))))
            for (n, sign), (later, _) in zip(found, found[1:]):
                self.assertLess(n, later)
                for at in (n, (n + later) // 2, later - 1):
                    self.assertEqual(sign_of(value(polynomial, at)), sign)
            for before, (n, sign) in zip(found, found[1:]):
                self.assertEqual(sign_of(value(polynomial, n)), sign)
                self.assertNotEqual(sign_of(value(polynomial, n - 1)), sign)
                self.assertEqual(before[1], sign_of(value(polynomial, n - 1)))
            n, sign = found[-1]
            self.assertEqual(sign, sign_of(polynomial[-1]) if polynomial else 0)
            for step in (1, 10, 10 ** 6, 10 ** 12):
                self.assertEqual(sign_of(value(polynomial, n + step)), sign)


class Compare(unittest.TestCase):
    def test_both_orders(self):
        for first, second, n in (((0, 0, 1), (0, 5), 6), ((1,), (), 0), ((0, 1), (7,), 8), ((0, 1), (1, 1), None),
                                 ((0, 0, 0, 1), (0, BILLION), 31623), ((3, 0, 1), (0, 4), 4)):
            if n is None:
                self.assertEqual(compare(first, second), (0, -1))
                self.assertEqual(compare(second, first), (0, 1))
            else:
                self.assertEqual(compare(first, second), (n, 1))
                self.assertEqual(compare(second, first), (n, -1))

    def test_equal_ones(self):
        for polynomial in ((), (7,), (1, -2, 1), (0,) * 8 + (BILLION,)):
            self.assertEqual(compare(polynomial, polynomial), (0, 0))

    def test_a_late_change_of_the_sign(self):
        self.assertEqual(compare((0, 0, 1), (0, BILLION)), (BILLION + 1, 1))
        self.assertEqual(compare((0, BILLION), (0, 0, 1)), (BILLION + 1, -1))
        self.assertEqual(compare((0, 0, 0, 0, 0, 0, 0, 0, 1), (0, 0, 0, 0, 0, 0, 0, BILLION)), (BILLION + 1, 1))


if __name__ == "__main__":
    unittest.main()
