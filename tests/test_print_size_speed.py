"""`print`, `size` and `speed`, and E1."""

import unittest
from fractions import Fraction

from tests.helper import PRINT, SIZE, asked, asked_last, at, draw, first, machine, pen, printed, right, sky, speed


def with_size(size):
    return f"crank 1 1\ntrain A {size} 0 1/1\n"


class Print(unittest.TestCase):
    def test_sizes(self):
        for size, wanted in (
            ("0", "0"), ("00", "0"), ("0.0", "0"), ("00.00", "0"), ("00.0000", "0"), ("5", "5"), ("05", "5"),
            ("10", "10"), ("50", "50"), ("10.0", "10"), ("10.0000", "10"), ("7.0", "7"), ("07.10", "7.1"),
            ("0.5", "0.5"), ("00.5", "0.5"), ("0.50", "0.5"), ("00.5000", "0.5"), ("0.05", "0.05"),
            ("0.0001", "0.0001"), ("00.0010", "0.001"), ("1.2345", "1.2345"), ("12.3400", "12.34"),
            ("09.9990", "9.999"), ("1.0203", "1.0203"), ("99.9999", "99.9999"), ("10.01", "10.01"), ("20.0", "20"), ("01.10", "1.1"),
        ):
            with self.subTest(size=size):
                self.assertEqual(printed(with_size(size)), with_size(wanted))

    def test_shown_size_is_the_same_number_written_shortest(self):
        for whole in ("0", "3", "30", "03", "00", "12"):
            for part in ("", ".0", ".3", ".30", ".03", ".003", ".0003", ".3000", ".0300", ".0030", ".1234", ".0000"):
                shown = printed(with_size(whole + part)).split()[5]
                with self.subTest(size=whole + part):
                    self.assertEqual(Fraction(shown), Fraction(whole + part))
                    self.assertRegex(shown, r"\A(0|[1-9][0-9]?)(\.[0-9]{0,3}[1-9])?\Z")

    def test_all_else_as_it_stands(self):
        for text in (
            "crank 1 1\n", "crank 999 99999\n",
            "crank 600 720\ntrain M2 1.5 3 44/45 7/8\ntrain m2 0.6025 0 1/2\n"
            "train Abcdef7 2 998 6/4 2/2 9/9 1/1 7/70 100/999\n",
        ):
            self.assertEqual(printed(text), text)

    def test_several_trains(self):
        text = "crank 10 20\ntrain turn 00.10 10 20/30 100/200\ntrain B 01.0 0 10/10\n"
        wanted = "crank 10 20\ntrain turn 0.1 10 20/30 100/200\ntrain B 1 0 10/10\n"
        self.assertEqual(printed(text), wanted)

    def test_printed_is_right_prints_itself_and_tells_the_same(self):
        for size in ("0", "00.00", "07.10", "12.3400", "00.5", "99"):
            text = f"crank 12 60\ntrain A {size} 1 3/4 5/6\ntrain B 0{size[:1]}.10 0 6/4 2/3\n"
            once = printed(text)
            self.assertEqual(asked(machine(once)), [[0]])
            self.assertEqual(printed(once), once)
            asks = (SIZE, speed(0), speed(1), speed(2), at(0, 5), at(1, -5), pen(0, 20), draw(0, 20, 20, -99999, 9999),
                    sky("angle a 0 3\nwave A a\nwave B a\n"), right(0, 7), right(1, 7), first(7))
            self.assertEqual(asked(machine(once), *asks), asked(machine(text), *asks))

    def test_printing_leaves_the_machine(self):
        told = asked(machine(with_size("01.50")), PRINT, PRINT)
        self.assertEqual(told[1], told[2])


class Size(unittest.TestCase):
    def test_no_train(self):
        self.assertEqual(asked_last(machine("crank 7 60\n"), SIZE), [0, 0, 7, 60])
        self.assertEqual(asked_last(machine("crank 999 99999\n"), SIZE), [0, 0, 999, 99999])
        self.assertEqual(asked_last(machine("crank 1 1\n"), SIZE), [0, 0, 1, 1])

    def test_trains(self):
        for count in (1, 2, 63, 64):
            lines = [f"train T{number} 1 0 1/2\n" for number in range(count)]
            self.assertEqual(asked_last(machine("crank 120 720\n" + "".join(lines)), SIZE), [0, count, 120, 720])


class Speed(unittest.TestCase):
    def expect(self, teeth, minutes, pairs, wanted):
        text = f"crank {teeth} {minutes}\ntrain A 1 0 {pairs}\n"
        with self.subTest(text=text):
            self.assertEqual(asked_last(machine(text), speed(0)), [0, wanted[0], wanted[1]])

    def test_lowest_terms(self):
        self.expect(100, 720, "44/45 7/8", (77, 64800))
        self.expect(1, 1, "2/4", (1, 2))
        self.expect(1, 6, "4/9", (2, 27))
        self.expect(7, 10, "5/3", (1, 6))
        self.expect(1, 60, "3/5 5/3", (1, 60))
        self.expect(1, 99999, "1/999 1/999 1/999 1/999 1/999 1/999", (1, 99999 * 999 ** 6))
        self.expect(1, 99999, "998/999 998/999 998/999 998/999 998/999 998/999", (998 ** 6, 99999 * 999 ** 6))

    def test_whole_products(self):
        self.expect(1, 1, "1/1", (1, 1))
        self.expect(1, 1, "6/3", (2, 1))
        self.expect(1, 1, "6/4 2/3", (1, 1))
        self.expect(1, 1, "999/1 999/1 999/1 999/1 999/1 999/1", (999 ** 6, 1))
        self.expect(1, 720, "1/2 4/1", (1, 360))
        self.expect(1, 6, "9/3 4/1", (2, 1))

    def test_teeth_of_the_crank_and_start_do_not_matter(self):
        for teeth in (1, 2, 60, 999):
            self.expect(teeth, 60, "1/2", (1, 120))
        text = "crank 5 60\ntrain A 1 1 1/2\n"
        self.assertEqual(asked_last(machine(text), speed(0)), [0, 1, 120])

    def test_each_train_by_its_number(self):
        text = "crank 5 10\ntrain A 1 0 1/2\ntrain B 1 0 1/3\ntrain C 1 0 2/1 5/7\n"
        told = asked(machine(text), speed(2), speed(0), speed(1))
        self.assertEqual(told[1:], [[0, 1, 7], [0, 1, 20], [0, 1, 30]])

    def test_no_such_train(self):
        for count in (0, 1, 2, 64):
            lines = [f"train T{number} 1 0 {number + 1}/100\n" for number in range(count)]
            text = "crank 1 1\n" + "".join(lines)
            told = asked(machine(text), speed(count), speed(count + 1), speed(4294967295), speed(4294967296))
            self.assertEqual(told[1:], [[-4]] * 4)
            if count > 0:
                fraction = Fraction(count, 100)
                wanted = [0, fraction.numerator, fraction.denominator]
                self.assertEqual(asked_last(machine(text), speed(count - 1)), wanted)

    def test_against_fractions(self):
        number = 12345
        for _ in range(200):
            drawn = []
            for bound in (99999, 999, 999, 999, 999, 999, 999):
                number = (number * 1103515245 + 12345) % 2 ** 31
                drawn.append(number // 65536 % min(bound, 60 if number % 3 else bound) + 1)
            minutes, one, two, three, four, five, six = drawn
            wanted = Fraction(one, two) * Fraction(three, four) * Fraction(five, six) / minutes
            pairs = f"{one}/{two} {three}/{four} {five}/{six}"
            self.expect(9, minutes, pairs, (wanted.numerator, wanted.denominator))


if __name__ == "__main__":
    unittest.main()
