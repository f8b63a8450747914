"""`pen n j`, and E3 as far as it speaks of the pen."""

import unittest
from fractions import Fraction
from math import floor

from tests.helper import FAR, GREATEST, LEAST, asked, asked_last, at, machine, pen, pens, true_ray_cosine


def with_trains(teeth, *trains):
    """A machine's text with trains T0, T1, ..., each told by its size, START and pairs."""
    return f"crank {teeth} 60\n" + "".join([f"train T{number} {train}\n" for number, train in enumerate(trains)])


def rounded(height):
    """The nearest whole number, a tie to the greater."""
    return floor(height + Fraction(1, 2))


class Heights(unittest.TestCase):
    def test_no_train(self):
        self.assertEqual(pens("crank 7 60\n", 0, 3), [0, 0, 0])
        self.assertEqual(pens("crank 7 60\n", LEAST, 256), [0] * 256)

    def test_one_train_through_its_quarters(self):
        text = with_trains(4, "1 0 1/1")
        self.assertEqual(pens(text, 0, 9), [10000, 0, -10000, 0, 10000, 0, -10000, 0, 10000])
        self.assertEqual(pens(text, 2, 3), [-10000, 0, 10000])
        self.assertEqual(pens(text, -1, 3), [0, 10000, 0])
        self.assertEqual(pens(text, -6, 3), [-10000, 0, 10000])

    def test_one_train_through_its_eighths(self):
        text = with_trains(8, "1 0 1/1")
        self.assertEqual(pens(text, 0, 8), [10000, 7071, 0, -7071, -10000, -7071, 0, 7071])

    def test_start_and_pairs(self):
        self.assertEqual(pens(with_trains(4, "1 1 1/2"), 0, 5), [-10000, -7071, 0, 7071, 10000])
        self.assertEqual(pens(with_trains(1, "2 0 1/2 1/2"), 0, 5), [20000, 0, -20000, 0, 20000])
        self.assertEqual(pens(with_trains(2, "2 3 1/4 1/4"), 0, 3), [0, 3902, 7654])

    def test_sizes_are_in_tenths_of_a_millimetre(self):
        for size, wanted in (
            ("0", 0), ("00.0000", 0), ("0.0001", 1), ("0.001", 10), ("0.01", 100), ("0.1", 1000), ("1", 10000),
            ("01.50", 15000), ("1.2345", 12345), ("99.9999", 999999), ("99", 990000),
        ):
            self.assertEqual(pens(with_trains(2, f"{size} 0 1/1"), 0, 2), [wanted, -wanted], size)

    def test_many_trains(self):
        trains = [f"{number}.{number:04} {number} {number + 3}/{number + 2} 7/{number + 1}" for number in range(64)]
        self.hold(with_trains(97, *trains), 64, (0, 1, -1, 12345, LEAST, GREATEST))

    def test_greatest_height(self):
        text = with_trains(2, *["99.9999 0 1/1"] * 64)
        self.assertEqual(pens(text, 0, 2), [64 * 999999, -64 * 999999])

    def test_some_trains(self):
        text = with_trains(100, "1.5 3 44/45 7/8", "0.6025 0 1/2", "0 1 1/2", "2.0001 500 999/998 1/999", "0.7 2 5/3")
        self.hold(text, 5, range(-60, 60))

    def hold(self, text, count, many_steps):
        """Holds the pen against the sum of the tests' own cosines at the angles that `at` tells."""
        sizes = [Fraction(line.split(" ")[2]) * 10000 for line in text.splitlines()[1:]]
        for steps in many_steps:
            told = asked(machine(text), pen(steps, 1), *[at(number, steps) for number in range(count)])
            cosines = [true_ray_cosine(answer[3]) for answer in told[2:]]
            height = sum([size * cosine for size, cosine in zip(sizes, cosines, strict=True)]) / 2 ** 30
            self.assertEqual(told[1], [0, 1, rounded(height)], steps)


class Rounded(unittest.TestCase):
    # C of 5/6 of a turn, cut, is just 2^29, that of 1/3 of a turn -2^29: half a size above and half a size below.
    HALF = "5 1/6"
    LESS_HALF = "2 1/6"

    def test_these_cosines_are_just_a_half(self):
        self.assertEqual(true_ray_cosine(2 ** 32 * 5 // 6), 2 ** 29)
        self.assertEqual(true_ray_cosine(2 ** 32 // 3), -2 ** 29)

    def test_a_tie_goes_to_the_greater(self):
        for size, above, below in (("0.0001", 1, 0), ("0.0003", 2, -1), ("0.0005", 3, -2), ("0.0007", 4, -3),
                                   ("1.0001", 5001, -5000)):
            self.assertEqual(pens(with_trains(1, f"{size} {self.HALF}"), 0, 1), [above], size)
            self.assertEqual(pens(with_trains(1, f"{size} {self.LESS_HALF}"), 0, 1), [below], size)

    def test_no_tie(self):
        for size, half in (("0", 0), ("0.0002", 1), ("0.0004", 2), ("1", 5000)):
            self.assertEqual(pens(with_trains(1, f"{size} {self.HALF}"), 0, 1), [half])
            self.assertEqual(pens(with_trains(1, f"{size} {self.LESS_HALF}"), 0, 1), [-half])

    def test_beside_a_tie(self):
        # C of 1/6 of a turn, cut, is 2^29 + 1, that of 2/3 of a turn -2^29 - 1.
        self.assertEqual(true_ray_cosine(2 ** 32 // 6), 2 ** 29 + 1)
        self.assertEqual(true_ray_cosine(2 ** 33 // 3), -2 ** 29 - 1)
        self.assertEqual(pens(with_trains(1, "0.0003 1 1/6"), 0, 1), [2])
        self.assertEqual(pens(with_trains(1, "0.0003 4 1/6"), 0, 1), [-2])

    def test_rounded_once(self):
        for count, above, below in ((1, 1, 0), (2, 1, -1), (3, 2, -1), (4, 2, -2), (64, 32, -32)):
            self.assertEqual(pens(with_trains(1, *[f"0.0001 {self.HALF}"] * count), 0, 1), [above])
            self.assertEqual(pens(with_trains(1, *[f"0.0001 {self.LESS_HALF}"] * count), 0, 1), [below])
        # Each by itself comes to 0, together they come to 2.
        self.assertEqual(pens(with_trains(5, "0.0001 0 1/1"), 1, 1), [0])
        self.assertEqual(pens(with_trains(5, *["0.0001 0 1/1"] * 6), 1, 1), [2])

    def test_heights_below_0_are_rounded_to_the_nearest(self):
        # The cosine of 2/5 of a turn is -0.809, that of 3/10 of a turn is -0.309.
        self.assertEqual(pens(with_trains(5, "0.0001 0 1/1"), 2, 1), [-1])
        self.assertEqual(pens(with_trains(10, "0.0001 0 1/1"), 3, 1), [0])
        self.assertEqual(pens(with_trains(10, "0.0010 0 1/1"), 3, 1), [-3])


class HowMany(unittest.TestCase):
    TEXT = with_trains(12, "1 0 1/1", "0.5 1 3/2")

    def test_count(self):
        self.assertEqual(asked_last(machine(self.TEXT), pen(0, 0)), [0, 0])
        self.assertEqual(asked_last(machine(self.TEXT), pen(0, 1)), [0, 1, 5000])
        for count in (2, 12, 255, 256):
            self.assertEqual(len(pens(self.TEXT, 0, count)), count)

    def test_one_behind_another(self):
        together = pens(self.TEXT, -100, 256)
        for place in (0, 1, 99, 100, 101, 254, 255):
            self.assertEqual(pens(self.TEXT, place - 100, 1), [together[place]])
        self.assertEqual(pens(self.TEXT, -50, 100), together[50:150])

    def test_too_many(self):
        for count in (257, 258, 1000, FAR - 1, FAR):
            self.assertEqual(asked_last(machine(self.TEXT), pen(0, count)), [-1])

    def test_no_train_is_no_way_round_the_bounds(self):
        self.assertEqual(asked_last(machine("crank 1 1\n"), pen(0, 257)), [-1])
        self.assertEqual(asked_last(machine("crank 1 1\n"), pen(GREATEST + 1, 1)), [-1])

    def test_steps_at_their_edges(self):
        for steps in (LEAST, LEAST + 1, GREATEST - 1, GREATEST):
            # 24 steps bring both trains round.
            self.assertEqual(pens(self.TEXT, steps, 5), pens(self.TEXT, steps % 24, 5))

    def test_beyond_the_greatest(self):
        told = pens(self.TEXT, GREATEST, 256)
        self.assertEqual(told, pens(self.TEXT, GREATEST % 24, 256))
        self.assertEqual(pens(self.TEXT, GREATEST - 100, 256)[100:], told[:156])

    def test_steps_out_of_bounds(self):
        for steps in (LEAST - 1, GREATEST + 1, -FAR, FAR):
            for count in (0, 1, 256, 257, FAR):
                self.assertEqual(asked_last(machine(self.TEXT), pen(steps, count)), [-1])


if __name__ == "__main__":
    unittest.main()
