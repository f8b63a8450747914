"""The cosine in 192 bits, C(a), and angles that are cut."""

import random
import unittest
from fractions import Fraction
from math import floor

from tests.helper import FINE, TWO_PI, true_cosine, true_ray_cosine
from tidemachine.circles import (
    BITS, FULL_TURN, QUARTER_ARC, angle_of, cosine_of_arc, cosine_of_quarter, cosine_of_turn, ray_cosine, sine_of_arc,
    terms_of_arc,
)

QUARTER = 2 ** 30
ONE = 2 ** 30
UNIT = 2 ** 192
H = 9860048348863269281198066682114134445731725432595044866280


def told_terms(x):
    """t(0) to t(63), as the document writes them."""
    told = [UNIT]
    for k in range(1, 64):
        told.append(floor(Fraction(floor(Fraction(told[k - 1] * x, UNIT)), k)))
    return told


def told_cosine(x):
    told = told_terms(x)
    return sum([told[k] * (-1) ** (k // 2) for k in range(0, 63, 2)])


def told_sine(x):
    told = told_terms(x)
    return sum([told[k] * (-1) ** (k // 2) for k in range(1, 64, 2)])


def told_of_quarter(r, d):
    if 2 * r <= d:
        return told_cosine(floor(Fraction(H * r, d)))
    return told_sine(floor(Fraction(H * (d - r), d)))


def told_of_turn(m, d):
    q, r = divmod(4 * m, d)
    return [told_of_quarter(r, d), -told_of_quarter(d - r, d), -told_of_quarter(r, d), told_of_quarter(d - r, d)][q]


def told_ray_cosine(a):
    c = told_of_turn(a, 2 ** 32)
    size = floor(Fraction(abs(c) + 2 ** 161, 2 ** 162))
    return size if c >= 0 else -size


def angles():
    """0, each quarter, the middle of each quarter and what lies beside them; then others."""
    for eighth in range(8):
        for beside in range(-3, 4):
            yield (eighth * 2 ** 29 + beside) % 2 ** 32
    for parts in (3, 5, 6, 7, 12, 360, 1000):
        for part in range(1, min(parts, 13)):
            yield 2 ** 32 * part // parts
    draw = random.Random(5)
    for _ in range(300):
        yield draw.randrange(2 ** 32)


class Constants(unittest.TestCase):
    def test_half_of_pi_cut(self):
        self.assertEqual(QUARTER_ARC, H)
        self.assertEqual(QUARTER_ARC, TWO_PI * UNIT // (4 * FINE))

    def test_others(self):
        self.assertEqual(FULL_TURN, 2 ** 32)
        self.assertEqual(2 ** BITS, UNIT)


class Cosine192(unittest.TestCase):
    def test_arcs_bit_by_bit(self):
        draw = random.Random(6)
        arcs = [0, 1, 2, 2 ** 96, 2 ** 191, UNIT - 1, UNIT, UNIT + 1, H // 2 - 1, H // 2, H // 2 + 1, H - 1, H]
        for x in arcs + [draw.randrange(H + 1) for _ in range(40)]:
            with self.subTest(x=x):
                self.assertEqual(cosine_of_arc(x), told_cosine(x))
                self.assertEqual(sine_of_arc(x), told_sine(x))
                # The terms that the program leaves out are all 0.
                terms = terms_of_arc(x)
                self.assertEqual(terms + [0] * (64 - len(terms)), told_terms(x))

    def test_of_a_quarter(self):
        for d in (1, 2, 3, 4, 5, 7, 100, 2 ** 32):
            for r in sorted({0, 1, d // 3, d // 2, (d + 1) // 2, min(d, d // 2 + 1), d - 1, d}):
                self.assertEqual(cosine_of_quarter(r, d), told_of_quarter(r, d), (r, d))

    def test_of_a_turn(self):
        for d in (1, 2, 3, 4, 5, 6, 7, 8, 9, 12, 16, 97, 2 ** 32, 2 ** 32 + 1):
            for m in range(d) if d < 100 else [0, 1, d // 8, d // 4, d // 3, d // 2, 3 * d // 4, d - 1]:
                self.assertEqual(cosine_of_turn(m, d), told_of_turn(m, d), (m, d))

    def test_near_the_true_one(self):
        for m, d in ((0, 1), (1, 3), (1, 5), (1, 8), (1, 7), (3, 7), (5, 8), (6, 7), (11, 12), (1, 1000), (501, 1000)):
            self.assertLess(abs(cosine_of_turn(m, d) - true_cosine(m, d) * UNIT // FINE), 200, (m, d))


class RayCosine(unittest.TestCase):
    def test_quarters(self):
        self.assertEqual([ray_cosine(quarter * QUARTER) for quarter in range(4)], [ONE, 0, -ONE, 0])

    def test_beside_quarters(self):
        self.assertEqual([ray_cosine(1), ray_cosine(2 ** 32 - 1)], [ONE, ONE])
        self.assertEqual([ray_cosine(QUARTER - 1), ray_cosine(QUARTER + 1)], [2, -2])
        self.assertEqual([ray_cosine(QUARTER - 2), ray_cosine(QUARTER + 2)], [3, -3])
        self.assertEqual([ray_cosine(2 * QUARTER - 1), ray_cosine(2 * QUARTER + 1)], [-ONE, -ONE])
        self.assertEqual([ray_cosine(3 * QUARTER - 1), ray_cosine(3 * QUARTER + 1)], [-2, 2])

    def test_middles_of_quarters(self):
        middle = 759250125
        self.assertEqual([ray_cosine(2 ** 29 * odd) for odd in (1, 3, 5, 7)], [middle, -middle, -middle, middle])
        self.assertEqual([ray_cosine(2 ** 29 - 1), ray_cosine(2 ** 29 + 1)], [759250126, 759250124])
        self.assertEqual([ray_cosine(5 * 2 ** 29 - 1), ray_cosine(5 * 2 ** 29 + 1)], [-759250126, -759250124])

    def test_last_angles_that_still_come_to_one(self):
        # 2^30 times the cosine falls below 2^30 - 1/2 behind the angle 2^32 / (2 pi) times 2^-15.
        self.assertEqual(ray_cosine(20860), ONE)
        self.assertEqual(ray_cosine(20861), ONE - 1)
        self.assertEqual(ray_cosine(2 ** 32 - 20860), ONE)
        self.assertEqual(ray_cosine(2 ** 32 - 20861), ONE - 1)

    def test_as_the_document_writes_it(self):
        for angle in angles():
            self.assertEqual(ray_cosine(angle), told_ray_cosine(angle), angle)

    def test_nearest_to_the_true_one(self):
        for angle in angles():
            self.assertEqual(ray_cosine(angle), true_ray_cosine(angle), angle)

    def test_it_is_a_whole_number(self):
        for angle in (0, 1, QUARTER, 3 * 2 ** 29):
            self.assertIs(type(ray_cosine(angle)), int)


class Cut(unittest.TestCase):
    def test_not_above_the_part(self):
        for part, wanted in (
            ((0, 1), 0), ((1, 2), 2 ** 31), ((1, 3), 1431655765), ((2, 3), 2863311530), ((5, 6), 3579139413),
            ((1, 2 ** 32), 1), ((1, 2 ** 32 + 1), 0), ((2 ** 32, 2 ** 32 + 1), 2 ** 32 - 1),
            ((2 ** 40 - 1, 2 ** 40), 2 ** 32 - 1), ((6, 12), 2 ** 31),
        ):
            self.assertEqual(angle_of(part), wanted, part)


class TheTestsOwnCosine(unittest.TestCase):
    def test_known_ones(self):
        self.assertEqual(TWO_PI * 10 ** 30 // FINE, 6283185307179586476925286766559)
        for part, halves in (((0, 1), 2), ((1, 6), 1), ((1, 4), 0), ((1, 3), -1), ((1, 2), -2), ((5, 6), 1)):
            self.assertLess(abs(2 * true_cosine(*part) - halves * FINE), 2 ** 40, part)


if __name__ == "__main__":
    unittest.main()
