"""`right i part` and `first part`, and E4."""

import unittest
from fractions import Fraction
from math import ceil

from tests.helper import FAR, asked, asked_last, first, machine, right, sky, speed
from tidemachine.skies import ONE, read_sky
from tidemachine.waves import TURN_IN_A_MINUTE, wave_speeds

# A step stands for 6 minutes; the train turns by a tenth of a turn in each, as fast as 360 degrees an hour.
TEXT = "crank 10 60\ntrain A 1 0 1/1\n"


def right_of(text, sky_text, part, number=0):
    return asked_last(machine(text), sky(sky_text), right(number, part))


def first_of(text, sky_text, part):
    return asked_last(machine(text), sky(sky_text), first(part))


def wave(rate, name="A"):
    return f"angle a 0 {rate}\nwave {name} a\n"


class Right(unittest.TestCase):
    def test_a_wave_that_stands_still(self):
        for part, steps in ((1, 10), (2, 5), (3, 4), (4, 3), (5, 2), (6, 2), (9, 2), (10, 1), (11, 1), (1000000, 1)):
            self.assertEqual(right_of(TEXT, wave(0), part), [1, steps], part)

    def test_as_fast_as_its_wave(self):
        for part in (1, 2, 1000000):
            self.assertEqual(right_of(TEXT, wave(360), part), [0])
            # 25 and 2/3 degrees an hour: no NUMBER is just that.
            self.assertEqual(right_of("crank 7 720\ntrain A 1 3 44/45 7/8\n", wave("25.666666666667"), part)[0], 1)
        # 14.4 degrees an hour: 1/25 of a turn an hour, so a turn in 1500 minutes.
        self.assertEqual(right_of("crank 120 60\ntrain A 2 1 1/5 1/5\n", wave("14.4"), 5), [0])
        self.assertEqual(right_of("crank 120 60\ntrain A 2 1 1/5 1/5\n", wave("14.400"), 1), [0])

    def test_before_and_behind_its_wave(self):
        # A tenth of a turn off in 60 minutes, this way or that.
        self.assertEqual(right_of(TEXT, wave(324), 1), [1, 100])
        self.assertEqual(right_of(TEXT, wave(396), 1), [1, 100])
        self.assertEqual(right_of(TEXT, wave(324), 1000), [1, 1])

    def test_rates_below_0(self):
        # Two tenths of a turn off at each step.
        self.assertEqual(right_of(TEXT, wave(-360), 1), [1, 5])
        self.assertEqual(right_of(TEXT, wave("-360.0"), 4), [1, 2])
        self.assertEqual(right_of(TEXT, "angle a 0 -360\nwave A - a\n", 1), [0])

    def test_the_least_difference_that_can_be_written(self):
        # 10^-12 degrees an hour: a turn in 360 * 10^12 hours of 10 steps each.
        for rate in ("360.000000000001", "359.999999999999"):
            self.assertEqual(right_of(TEXT, wave(rate), 1), [1, 3600 * 10 ** 12])
            self.assertEqual(right_of(TEXT, wave(rate), 1000000), [1, 3600 * 10 ** 6])
            self.assertEqual(right_of(TEXT, wave(rate), 999999), [1, 3600 * 10 ** 12 // 999999 + 1])

    def test_greatest_numbers(self):
        pairs = "998/999 998/999 998/999 998/999 998/999 998/997"
        train = Fraction(998, 999) ** 5 * Fraction(998, 997) / 99999
        near = floor_rate(train)
        told = right_of(f"crank 999 99999\ntrain A 1 0 {pairs}\n", wave(near), 1)
        off = abs(train - Fraction(near) / 21600)
        self.assertEqual(told, [1, ceil(Fraction(999, 99999) / off)])
        self.assertGreater(told[1], 10 ** 14)

    def test_angles_with_counts_and_signs(self):
        angles = "angle a 10 100\nangle b 20 -30\nangle c 30 0.5\n"
        for terms, rate in (
            ("a", 100), ("2 a", 200), ("15 a", 1500), ("- a", -100), ("- 3 a", -300), ("a + b", 70), ("a - b", 130),
            ("3 a - 2 b", 360), ("a + a", 200), ("a - a", 0), ("- a - b + 2 c", -69), ("2 a - 5 b + 4 b + 10 c", 235),
            ("a" + " + a" * 7, 800), ("c" + " - c" * 7, -3),
        ):
            with self.subTest(terms=terms):
                for part in (1, 7, 1000000):
                    self.assertEqual(right_of(TEXT, angles + f"wave A {terms}\n", part), self.wanted(rate, part))

    def test_sums_with_counts_and_signs(self):
        waves = "angle a 10 100\nangle b 20 -30\nwave u a\nwave v 2 a - b turn 90\nwave w b\n"
        for terms, rate in (
            ("u", 100), ("v", 230), ("- w", 30), ("12 u", 1200), ("- 12 u", -1200), ("u + v", 330), ("v - u", 130),
            ("v + u - w", 360), ("2 u - 3 v + w", -520), ("u" + " + w" * 7, -110), ("- w - 3 w + w - 2 u + u + u", 90),
        ):
            with self.subTest(terms=terms):
                for part in (1, 7, 1000000):
                    self.assertEqual(right_of(TEXT, waves + f"sum A {terms}\n", part), self.wanted(rate, part))

    def wanted(self, rate, part):
        """What right answers for TEXT's train against this rate."""
        off = abs(Fraction(1, 60) - Fraction(rate) / 360 / 60) * 6
        return [1, ceil(1 / (part * off))] if off else [0]

    def test_phase_turn_factor_and_shift_do_not_matter(self):
        for line in ("wave A a", "wave A a turn 90", "wave A a turn 270", "wave A a factor 0.5 a",
                     "wave A a shift 90 2 a",
                     "wave A a turn 180 factor -0.9 3 b factor 0.05 a shift -12 a shift 999 b - a"):
            for phase in ("0", "123.5", "-7"):
                sky_text = f"angle a {phase} 300\nangle b 0 100\n{line}\n"
                self.assertEqual(right_of(TEXT, sky_text, 1), [1, 60])
                self.assertEqual(right_of(TEXT, sky_text + "sum S A\n", 100), [1, 1])

    def test_start_and_size_do_not_matter(self):
        for train in ("1 0 1/2", "0 0 1/2", "99 1 1/2"):
            self.assertEqual(right_of(f"crank 10 60\ntrain A {train}\n", wave(0), 1), [1, 20])

    def test_teeth_and_minutes_of_the_crank(self):
        # The train turns as often as the crank; a still wave is a turn off after all its teeth.
        for teeth in (1, 7, 999):
            for minutes in (1, 60, 99999):
                self.assertEqual(right_of(f"crank {teeth} {minutes}\ntrain A 1 0 1/1\n", wave(0), 1), [1, teeth])
        # A still train is not to be had, but one that hardly turns is off by its wave's way: a turn an hour.
        slow = "1/999 1/999 1/999 1/999 1/999 1/999"
        self.assertEqual(right_of(f"crank 10 60\ntrain A 1 0 {slow}\n", wave(360), 1), [1, 11])
        self.assertEqual(right_of(f"crank 10 30\ntrain A 1 0 {slow}\n", wave(360), 1), [1, 21])

    def test_more_than_a_turn_in_a_step(self):
        self.assertEqual(right_of("crank 1 60\ntrain A 1 0 999/1\n", wave(0), 1), [1, 1])
        self.assertEqual(right_of("crank 1 99999\ntrain A 1 0 1/1\n", wave(999), 1), [1, 1])

    def test_each_train_against_its_own_wave(self):
        text = "crank 10 60\ntrain A 1 0 1/1\ntrain B 1 0 1/1\ntrain turn 1 0 1/2\n"
        sky_text = "angle a 0 180\nwave B 2 a\nwave A a\nsum turn A - B\nwave X a\n"
        told = asked(machine(text), sky(sky_text), right(0, 1), right(1, 1), right(2, 1))
        self.assertEqual(told[2:], [[1, 20], [0], [1, 10]])

    def test_names_are_told_apart_by_large_and_small_letters(self):
        self.assertEqual(right_of(TEXT, wave(0, "a1"), 1), [-9])
        self.assertEqual(right_of(TEXT, "angle A0 0 1\nwave AA A0\n", 1), [-9])


def floor_rate(train):
    """A train's speed as a rate, cut to the 12 digits that a NUMBER may have behind its point."""
    whole = int(train * 21600 * 10 ** 12)
    return f"{whole // 10 ** 12}.{whole % 10 ** 12:012}"


class RightRefused(unittest.TestCase):
    def test_no_wave_of_its_name(self):
        for sky_text in ("", "angle a 0 1\n", wave(0, "B"), "angle a 0 1\nwave AA a\nsum B AA\n"):
            self.assertEqual(right_of(TEXT, sky_text, 1), [-9])

    def test_an_angle_of_its_name_is_no_wave(self):
        self.assertEqual(right_of(TEXT, "angle A 0 1\n", 1), [-9])
        self.assertEqual(right_of(TEXT, "angle A 0 1\nwave B A\nsum C B\n", 1), [-9])
        self.assertEqual(first_of(TEXT, "angle A 0 1\nwave B A\nsum C B\n", 1), [-9])

    def test_part(self):
        for part in (0, 1000001, 1000002, FAR - 1, FAR):
            self.assertEqual(right_of(TEXT, wave(0), part), [-1])
            # Also where it is never off.
            self.assertEqual(right_of(TEXT, wave(360), part), [-1])
        for part in (1, 2, 999999, 1000000):
            self.assertEqual(right_of(TEXT, wave(0), part)[0], 1)

    def test_no_train(self):
        for number in (1, 2, FAR):
            self.assertEqual(right_of(TEXT, wave(0), 1, number), [-4])
        self.assertEqual(right_of("crank 1 1\n", wave(0), 1), [-4])
        many = "crank 1 1\n" + "".join([f"train T{number} 1 0 1/2\n" for number in range(64)])
        self.assertEqual(right_of(many, wave(0, "T63"), 1, 63), [1, 2])
        self.assertEqual(right_of(many, wave(0, "T63"), 1, 64), [-4])

    def test_order(self):
        for part in (0, 1, 1000001):
            for number in (0, 1):
                self.assertEqual(asked(right(number, part)), [[-3]])
                self.assertEqual(asked_last(sky(wave(0)), right(number, part)), [-3])
                self.assertEqual(asked_last(machine(TEXT), right(number, part)), [-3])
            self.assertEqual(right_of(TEXT, wave(0, "B"), part, 1), [-4])
            self.assertEqual(right_of(TEXT, wave(0), part, 1), [-4])
            self.assertEqual(right_of(TEXT, wave(0, "B"), part), [-9])
        self.assertEqual(right_of(TEXT, wave(0), 0), [-1])


class First(unittest.TestCase):
    # Against still waves these are a turn off after 40, 20, 10, 10 and 30 steps.
    TRAINS = "crank 10 60\ntrain A 1 0 1/4\ntrain B 1 0 1/2\ntrain C 1 0 1/1\ntrain D 1 0 2/2\ntrain E 1 0 1/3\n"
    STILL = "angle a 0 0\n" + "".join([f"wave {name} a\n" for name in "EDCBA"])

    def test_the_least(self):
        self.assertEqual(first_of(self.TRAINS, self.STILL, 1), [1, 2, 10])
        self.assertEqual(first_of(TEXT, wave(0), 1), [1, 0, 10])

    def test_of_several_the_first(self):
        # In 4 parts: 10, 5, 3, 3 and 8 steps; in a hundred: all within the first.
        self.assertEqual(first_of(self.TRAINS, self.STILL, 4), [1, 2, 3])
        self.assertEqual(first_of(self.TRAINS, self.STILL, 100), [1, 0, 1])
        # In 20 parts: 2, 1, 1, 1 and 2.
        self.assertEqual(first_of(self.TRAINS, self.STILL, 20), [1, 1, 1])

    def test_alike_by_steps_though_not_by_speed(self):
        # In 19 parts: 40/19, 20/19, 10/19: the third is the first that needs one step only.
        self.assertEqual(first_of(self.TRAINS, self.STILL, 19), [1, 2, 1])

    def test_the_last_of_all(self):
        lines = self.TRAINS.splitlines(keepends=True)
        self.assertEqual(first_of("".join(lines[:3] + lines[5:] + lines[3:4]), self.STILL, 1), [1, 3, 10])

    def test_some_never_are(self):
        text = "crank 10 60\ntrain A 1 0 1/1\ntrain B 1 0 1/4\ntrain C 1 0 1/1\ntrain D 1 0 1/2\n"
        sky_text = "angle a 0 360\nangle b 0 0\nwave A a\nwave B b\nwave C a\nwave D b\n"
        self.assertEqual(first_of(text, sky_text, 1), [1, 3, 20])
        self.assertEqual(first_of(text, sky_text.replace("D b", "D a - b"), 1), [1, 3, 20])
        self.assertEqual(first_of(text, sky_text.replace("angle b 0 0", "angle b 0 90"), 1), [1, 3, 40])
        self.assertEqual(first_of(text, sky_text.replace("angle b 0 0", "angle b 0 180"), 1), [1, 1, 40])

    def test_none_ever_is(self):
        self.assertEqual(first_of(TEXT, wave(360), 1), [0])
        text = "crank 10 60\ntrain A 1 0 1/1\ntrain B 1 0 2/1\n"
        self.assertEqual(first_of(text, "angle a 0 360\nwave A a\nsum B 2 A\n", 1000000), [0])

    def test_no_train_at_all(self):
        for sky_text in ("", wave(0)):
            for part in (1, 1000000):
                self.assertEqual(first_of("crank 1 1\n", sky_text, part), [0])
            for part in (0, 1000001, FAR):
                self.assertEqual(first_of("crank 1 1\n", sky_text, part), [-1])

    def test_some_train_has_no_wave(self):
        for name in "ABCDE":
            sky_text = self.STILL.replace(f"wave {name} a\n", "")
            for part in (0, 1, 1000000, 1000001):
                self.assertEqual(first_of(self.TRAINS, sky_text, part), [-9])
            self.assertEqual(first_of(self.TRAINS, sky_text + f"angle {name} 0 0\n", 1), [-9])
            self.assertEqual(first_of(self.TRAINS, sky_text + f"wave {name} a\n", 1), [1, 2, 10])

    def test_part(self):
        for part in (0, 1000001, 1000002, FAR):
            self.assertEqual(first_of(self.TRAINS, self.STILL, part), [-1])
            self.assertEqual(first_of(TEXT, wave(360), part), [-1])
        for part in (1, 2, 999999, 1000000):
            self.assertEqual(first_of(self.TRAINS, self.STILL, part)[0], 1)

    def test_no_machine_or_no_sky_before_all_else(self):
        for part in (0, 1, 1000001):
            self.assertEqual(asked(first(part)), [[-3]])
            self.assertEqual(asked_last(sky(""), first(part)), [-3])
            self.assertEqual(asked_last(machine(TEXT), first(part)), [-3])

    def test_the_least_of_right(self):
        text = "crank 97 720\n"
        sky_text = "angle s 12 14.4920521\nangle h 0 0.0410686\nangle p 3 -0.0046418\n"
        for number in range(64):
            text += f"train T{number} 1 0 {number % 7 + 1}/{number % 5 + 2} {number + 90}/{2 * number + 91}\n"
            sky_text += f"wave T{number} {number % 3 + 1} s - {number % 4 + 1} h + p\n"
        for part in (1, 2, 360, 1000, 1000000):
            told = asked(machine(text), sky(sky_text), first(part), *[right(number, part) for number in range(64)])
            steps = [answer[1] for answer in told[3:]]
            self.assertEqual(told[2], [1, steps.index(min(steps)), min(steps)])


class E4(unittest.TestCase):
    def test_not_before_and_always_behind(self):
        text = "crank 12 720\ntrain A 1 0 29/14\ntrain B 1 0 193/100 3/2\ntrain C 0 3 44/45 7/8\ntrain D 9 0 2/1\n"
        sky_text = "angle s 0 14.4920521\nangle h 0 -15.041\nwave A 2 s + 15 h\nwave B h\nwave X s\n"
        sky_text += "sum C 2 X - B\nwave D s\n"
        rates = [Fraction("28.9841042") - 15 * Fraction("15.041"), Fraction("-15.041"),
                 Fraction("28.9841042") + Fraction("15.041"), Fraction("14.4920521")]
        for number, rate in enumerate(rates):
            told = asked_last(machine(text), speed(number))
            apart = abs(Fraction(told[1], told[2]) - rate / 21600) * 60
            for part in (1, 2, 3, 17, 360, 1000, 99999, 1000000):
                steps = right_of(text, sky_text, part, number)[1]
                self.assertGreaterEqual(steps * apart, Fraction(1, part))
                self.assertTrue(steps == 1 or (steps - 1) * apart < Fraction(1, part))

    def test_just_at_it(self):
        # Off by 1/10 of a turn a step: just a part-th after 10 / part steps, if that's whole.
        for part, steps in ((1, 10), (2, 5), (5, 2), (10, 1)):
            self.assertEqual(right_of(TEXT, wave(0), part), [1, steps])
        # A hair slower apart, and it's one step more; a hair faster, and it isn't less than before.
        for part, steps in ((1, 11), (2, 6), (5, 3), (10, 2)):
            self.assertEqual(right_of(TEXT, wave("0.000000000001"), part), [1, steps])
            self.assertEqual(right_of(TEXT, wave("-0.000000000001"), part), [1, steps - 1])


class Speeds(unittest.TestCase):
    def test_a_turn_in_a_minute(self):
        self.assertEqual(TURN_IN_A_MINUTE, 360 * 60 * ONE)

    def test_waves_and_sums_alone(self):
        text = "angle a 7 1.5\nangle b 0 -2\nwave u 3 a - b turn 90\nwave v - b factor 0.5 a shift 3 a\nsum s 2 u - v\n"
        speeds = wave_speeds(read_sky(list(text.encode())))
        self.assertEqual(speeds, {(117,): 65 * ONE // 10, (118,): 2 * ONE, (115,): 11 * ONE})


if __name__ == "__main__":
    unittest.main()
