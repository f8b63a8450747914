"""`at i n`, and E2."""

import itertools
import unittest
from fractions import Fraction
from math import floor, prod

from tests.helper import FAR, GREATEST, LEAST, asked, asked_last, at, machine


def one_train(teeth, start, pairs, minutes=60):
    return f"crank {teeth} {minutes}\ntrain A 1 {start} {pairs}\n"


def stand(text, steps, number=0):
    return asked_last(machine(text), at(number, steps))


def answer_of(part):
    """What `at` answers where a train stands at this part of a turn, whole turns still in it."""
    part %= 1
    return [0, part.numerator, part.denominator, floor(part * 2 ** 32)]


class Stands(unittest.TestCase):
    def expect(self, text, steps, above, below, angle):
        with self.subTest(text=text, steps=steps):
            self.assertEqual(stand(text, steps), [0, above, below, angle])

    def test_start_alone(self):
        self.expect(one_train(10, 0, "1/1"), 0, 0, 1, 0)
        self.expect(one_train(10, 0, "3/4 5/6"), 0, 0, 1, 0)
        self.expect(one_train(10, 1, "1/2"), 0, 1, 2, 2 ** 31)
        self.expect(one_train(10, 3, "1/4"), 0, 3, 4, 3 * 2 ** 30)
        self.expect(one_train(10, 6, "1/8"), 0, 3, 4, 3 * 2 ** 30)
        # Of the last wheel's teeth, not of another's and not of the crank's.
        self.expect(one_train(10, 2, "7/5 1/3"), 0, 2, 3, 2863311530)
        self.expect(one_train(7, 998, "1/999"), 0, 998, 999, 2 ** 32 * 998 // 999)

    def test_forward(self):
        text = one_train(10, 0, "1/1")
        self.expect(text, 1, 1, 10, 429496729)
        self.expect(text, 4, 2, 5, 1717986918)
        self.expect(text, 5, 1, 2, 2 ** 31)
        self.expect(text, 9, 9, 10, 3865470566)
        self.expect(one_train(10, 0, "2/3"), 1, 1, 15, 2 ** 32 // 15)
        self.expect(one_train(10, 1, "2/3"), 1, 2, 5, 2 ** 32 * 2 // 5)
        self.expect(one_train(100, 3, "44/45 7/8"), 1, 863, 2250, 2 ** 32 * 863 // 2250)

    def test_back(self):
        text = one_train(10, 0, "1/1")
        self.expect(text, -1, 9, 10, 3865470566)
        self.expect(text, -5, 1, 2, 2 ** 31)
        self.expect(text, -13, 7, 10, 3006477107)
        self.expect(one_train(10, 1, "2/3"), -1, 4, 15, 2 ** 32 * 4 // 15)
        self.expect(one_train(10, 1, "2/3"), -6, 14, 15, 2 ** 32 * 14 // 15)

    def test_whole_turns_taken_off(self):
        text = one_train(10, 0, "1/1")
        for steps in (10, 20, 1000, -10, -20, -1000, 2 * 10 ** 9, -2 * 10 ** 9):
            self.expect(text, steps, 0, 1, 0)
            self.assertEqual(stand(text, steps + 3), [0, 3, 10, 1288490188])
        self.expect(one_train(4, 1, "9/2"), 1, 5, 8, 5 * 2 ** 29)
        self.expect(one_train(4, 1, "2/2"), 2, 0, 1, 0)
        self.expect(one_train(2, 0, "999/1"), 1, 1, 2, 2 ** 31)
        self.expect(one_train(1, 0, "999/1"), 1, 0, 1, 0)
        self.expect(one_train(1, 5, "999/7"), 1, 3, 7, 2 ** 32 * 3 // 7)

    def test_angle_is_cut(self):
        self.expect(one_train(3, 0, "1/1"), 1, 1, 3, 1431655765)
        self.expect(one_train(3, 0, "1/1"), 2, 2, 3, 2863311530)
        self.expect(one_train(6, 0, "1/1"), 5, 5, 6, 3579139413)
        # Just below a whole turn, and just above none.
        long = "1/999 1/999 1/999 1/999 1/999 1/999"
        below = 999 ** 7
        self.expect(one_train(999, 0, long), 1, 1, below, 0)
        self.expect(one_train(999, 0, long), -1, below - 1, below, 2 ** 32 - 1)

    def test_minutes_do_not_matter(self):
        for minutes in (1, 60, 99999):
            self.assertEqual(stand(one_train(10, 1, "2/3", minutes), 7), [0, 4, 5, 3435973836])

    def test_six_pairs(self):
        pairs = [(7, 9), (100, 33), (2, 999), (64, 5), (31, 30), (17, 12)]
        text = one_train(120, 5, " ".join([f"{one}/{other}" for one, other in pairs]))
        product = Fraction(prod([one for one, _ in pairs]), prod([other for _, other in pairs]))
        for steps in (0, 1, -1, 2, 119, 120, 121, 65536, LEAST, GREATEST):
            self.assertEqual(stand(text, steps), answer_of(Fraction(5, 12) + Fraction(steps, 120) * product))

    def test_greatest_teeth(self):
        text = one_train(999, 998, "998/999 998/999 998/999 998/999 998/999 998/999")
        for steps in (1, -1, LEAST, GREATEST):
            wanted = answer_of(Fraction(998, 999) + Fraction(steps, 999) * Fraction(998, 999) ** 6)
            self.assertEqual(stand(text, steps), wanted)

    def test_each_train_by_its_number(self):
        text = "crank 12 60\ntrain A 1 0 1/1\ntrain B 2 1 1/2\ntrain C 0 3 5/4 1/7\n"
        told = asked(machine(text), at(2, 5), at(0, 5), at(1, 5))
        wanted = [Fraction(3, 7) + Fraction(25, 336), Fraction(5, 12), Fraction(1, 2) + Fraction(5, 24)]
        self.assertEqual(told[1:], [answer_of(part) for part in wanted])

    def test_steps_at_their_edges(self):
        text = one_train(7, 2, "3/5")
        for steps in (LEAST, LEAST + 1, GREATEST - 1, GREATEST):
            self.assertEqual(stand(text, steps), answer_of(Fraction(2, 5) + Fraction(steps * 3, 35)))


class Refused(unittest.TestCase):
    def test_no_such_train(self):
        for count in (0, 1, 3, 64):
            text = "crank 1 1\n" + "".join([f"train T{number} 1 0 1/2\n" for number in range(count)])
            told = asked(machine(text), at(count, 0), at(count + 1, 0), at(FAR - 1, 5), at(FAR, -5))
            self.assertEqual(told[1:], [[-4]] * 4)
            if count > 0:
                self.assertEqual(stand(text, 1, count - 1), [0, 1, 2, 2 ** 31])

    def test_steps_out_of_bounds(self):
        text = one_train(7, 2, "3/5")
        for steps in (LEAST - 1, GREATEST + 1, LEAST - 2, GREATEST + 2, -FAR, FAR):
            self.assertEqual(stand(text, steps), [-1])

    def test_no_train_before_steps_out_of_bounds(self):
        for steps in (LEAST - 1, GREATEST + 1, -FAR, FAR):
            self.assertEqual(stand(one_train(7, 2, "3/5"), steps, 1), [-4])
            self.assertEqual(stand("crank 1 1\n", steps), [-4])


class E2(unittest.TestCase):
    def test_round_where_it_was(self):
        for teeth, start, pairs in ((10, 0, [(1, 1)]), (12, 3, [(5, 8), (3, 7)]), (100, 3, [(44, 45), (7, 8)]),
                                    (60, 10, [(4, 2), (11, 13)]), (9, 1, [(12, 2), (3, 5), (10, 9)])):
            text = one_train(teeth, start, " ".join([f"{one}/{other}" for one, other in pairs]))
            step = Fraction(prod([one for one, _ in pairs]), teeth * prod([other for _, other in pairs]))
            around = step.denominator
            for steps in (0, 1, 5, -7):
                here = stand(text, steps)
                self.assertEqual(stand(text, steps + around), here)
                self.assertEqual(stand(text, steps - 3 * around), here)
                # Not with fewer steps than that.
                for fewer in range(1, min(around, 40)):
                    self.assertNotEqual(stand(text, steps + fewer), here)

    def test_step_by_step(self):
        text = one_train(30, 4, "7/9 11/6 5/5")
        step = Fraction(7 * 11 * 5, 30 * 9 * 6 * 5)
        told = asked(machine(text), *[at(0, steps) for steps in range(-40, 41)])[1:]
        for one, other in zip(told, told[1:]):
            self.assertEqual((Fraction(other[1], other[2]) - Fraction(one[1], one[2]) - step) % 1, 0)

    def test_pairs_in_any_order(self):
        pairs = ["3/4", "10/7", "1/9", "25/4"]
        for steps in (0, 1, -1, 1000, LEAST, GREATEST):
            stands = {tuple(stand(one_train(60, 0, " ".join(order)), steps)) for order in itertools.permutations(pairs)}
            self.assertEqual(len(stands), 1)
            # With a START, those stand alike that have the same last teeth.
            stands = {}
            for order in itertools.permutations(pairs):
                last = order[-1].split("/")[1]
                stands.setdefault(last, set()).add(tuple(stand(one_train(60, 3, " ".join(order)), steps)))
            self.assertEqual([len(found) for found in stands.values()], [1, 1, 1])

    def test_wheels_between_may_change_places(self):
        for pairs in ("3/4 5/7", "5/4 3/7"):
            self.assertEqual(stand(one_train(10, 2, pairs), 9), answer_of(Fraction(2, 7) + Fraction(9 * 15, 280)))


if __name__ == "__main__":
    unittest.main()
