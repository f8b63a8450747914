"""`sky t`: the grammar's places, and kinds 2 to 5."""

import unittest

from tests.helper import TextCase, bytes_of, sky
from tidemachine.skies import read_sky

ANGLES = "angle a 0 1\nangle b 0 1\n"


class Judged(TextCase):
    def call(self, text):
        return sky(text)


class Grammar(Judged):
    def test_empty(self):
        self.expect_right("")

    def test_ordinary(self):
        self.expect_right(
            "angle s 218.32 0.5490165\n",
            ANGLES + "wave M2 2 a - 2 b\n",
            ANGLES + "wave M2 - 2 a + 15 b turn 90\nwave K1 a turn 270\nsum X M2 + 2 K1 - M2\n",
            ANGLES + "wave M2 a turn 180 factor -0.037 - a factor 0.5 2 a + b shift -2.14 a shift 12 - 3 b - a\n",
            ANGLES + "wave M2 a shift 1 a\nwave M3 a factor 0.1 a\nsum S - 2 M2\n",
        )

    def test_cut_anywhere(self):
        text = (
            "angle turn -12.34 567.890123456789\nangle a 0 1\nwave Wave1 - 2 turn + 15 a - turn turn 270 "
            "factor -0.12 10 a - turn factor 0.1 turn shift -3.5 - a shift 004 turn\nwave w a\nsum S - 3 w + Wave1\n"
        )
        ends = [0] + [place + 1 for place, sign in enumerate(text) if sign == "\n"]
        for place in range(len(text)):
            if place not in ends:
                self.expect_fault(text[:place], text[:place])
        self.expect_right(*[text[:end] for end in ends], text)

    def test_lines(self):
        self.expect_fault("\n", "")
        self.expect_fault("\xff", "")
        self.expect_fault("angle a 0 1\n\xff", "angle a 0 1\n")
        self.expect_fault(" angle a 0 1\n", "")
        self.expect_fault("Angle a 0 1\n", "")
        self.expect_fault("angel a 0 1\n", "ang")
        self.expect_fault("wage a b\n", "wa")
        self.expect_fault("sun a b\n", "su")
        self.expect_fault("turn 90\n", "")
        self.expect_fault("angle a 0 1\r\n", "angle a 0 1")
        self.expect_fault("angle a 0 1\n\n", "angle a 0 1\n")
        self.expect_fault("angle a 0 1", "angle a 0 1")
        self.expect_fault("angle a 0 1\x00", "angle a 0 1")
        self.expect_fault("angle a 0 1 2\n", "angle a 0 1")
        self.expect_fault("angle a 0\n", "angle a 0")
        self.expect_fault("wave a\n", "wave a")
        self.expect_fault("sum a \n", "sum a ")

    def test_blanks(self):
        self.expect_fault("angle  a 0 1\n", "angle ")
        self.expect_fault("angle a  0 1\n", "angle a ")
        self.expect_fault("angle a 0  1\n", "angle a 0 ")
        self.expect_fault("angle a 0 1 \n", "angle a 0 1")
        self.expect_fault("wave w  a\n", "wave w ")
        self.expect_fault("wave w a \n", "wave w a ")
        self.expect_fault("wave w a  + a\n", "wave w a ")
        self.expect_fault("wave w a +  a\n", "wave w a + ")
        self.expect_fault("wave w 2  a\n", "wave w 2 ")
        self.expect_fault("wave w a turn  90\n", "wave w a turn ")
        self.expect_fault("wave w a turn 90 \n", "wave w a turn 90 ")
        self.expect_fault("sum s w \n", "sum s w ")
        self.expect_fault("sum s w+ w\n", "sum s w")
        self.expect_fault("sum s w +w\n", "sum s w +")
        self.expect_fault("sum s -w\n", "sum s -")
        self.expect_fault("sum s + w\n", "sum s ")
        self.expect_fault("sum s - - w\n", "sum s - ")
        self.expect_fault("sum s w * w\n", "sum s w ")
        self.expect_fault("sum s w w\n", "sum s w ")

    def test_name(self):
        tail = " 0 1\n"
        self.expect_right("angle Abcdef7" + tail, "angle turn" + tail, "angle sum" + tail, "angle Z0" + tail)
        self.expect_fault("angle Abcdefgh" + tail, "angle Abcdefg")
        self.expect_fault("angle 2a" + tail, "angle ")
        self.expect_fault("angle a-b" + tail, "angle a")
        self.expect_fault("wave w Abcdefgh\n", "wave w Abcdefg")
        self.expect_fault("wave Abcdefgh a\n", "wave Abcdefg")
        self.expect_fault("sum Abcdefgh a\n", "sum Abcdefg")
        self.expect_fault("sum s Abcdefgh\n", "sum s Abcdefg")

    def test_turn(self):
        head = ANGLES + "wave w a turn "
        self.expect_right(head + "90\n", head + "180\n", head + "270\n")
        self.expect_right(head + "90 factor 0.5 a\n", head + "90 shift 0.5 a\n")
        self.expect_fault(head + "0\n", head)
        self.expect_fault(head + "45\n", head)
        self.expect_fault(head + "-90\n", head)
        self.expect_fault(head + "9\n", head + "9")
        self.expect_fault(head + "91\n", head + "9")
        self.expect_fault(head + "900\n", head + "90")
        self.expect_fault(head + "100\n", head + "1")
        self.expect_fault(head + "181\n", head + "18")
        self.expect_fault(head + "18\n", head + "18")
        self.expect_fault(head + "360\n", head)
        self.expect_fault(head + "260\n", head + "2")
        self.expect_fault(head + "2700\n", head + "270")
        self.expect_fault(head + "\n", head)
        self.expect_fault(head + "90 turn 90\n", head + "90 ")
        self.expect_fault(head + "90 + a\n", head + "90 ")
        self.expect_fault(head + "90 - a\n", head + "90 ")
        head = ANGLES + "wave w a factor 0.5 a"
        self.expect_fault(head + " turn 90\n", head + " ")
        head = ANGLES + "wave w a shift 0.5 a"
        self.expect_fault(head + " turn 90\n", head + " ")
        head = ANGLES + "wave w a\nsum s w"
        self.expect_fault(head + " turn 90\n", head + " ")
        self.expect_fault(head + " factor 0.5 w\n", head + " ")
        self.expect_fault(head + " shift 0.5 w\n", head + " ")

    def test_turn_as_a_name(self):
        self.expect_right(
            "angle turn 0 1\nwave w turn\n",
            "angle turn 0 1\nwave w turn turn 90\n",
            "angle turn 0 1\nwave w - turn + 2 turn turn 180 factor 0.5 turn shift 1 turn\n",
            ANGLES + "wave turn a turn 90\nsum s turn + turn\n",
            "angle factor 0 1\nangle shift 0 1\nwave w factor + shift factor 0.1 factor shift 1 shift\n",
        )
        self.expect_fault("angle turn 0 1\nwave w turn turn turn 90\n", "angle turn 0 1\nwave w turn turn ")
        self.expect_fault("angle turn 0 1\nwave w turn turn\n", "angle turn 0 1\nwave w turn turn")

    def test_words_of_a_wave(self):
        head = ANGLES + "wave w a "
        self.expect_fault(head + "tern 90\n", head + "t")
        self.expect_fault(head + "facts 1 a\n", head + "fact")
        self.expect_fault(head + "ship 1 a\n", head + "shi")
        self.expect_fault(head + "b\n", head)
        self.expect_fault(head + "factor a\n", head + "factor ")
        self.expect_fault(head + "factor 0.5\n", head + "factor 0.5")
        self.expect_fault(head + "shift 0.5 \n", head + "shift 0.5 ")

    def test_count(self):
        for head, tail in (
            (ANGLES + "wave w ", " a\n"), (ANGLES + "wave w - ", " a\n"), (ANGLES + "wave w a - ", " a\n"),
            (ANGLES + "wave w a factor 0.5 ", " a\n"), (ANGLES + "wave w a shift 1 b + ", " b\n"),
        ):
            self.expect_right(*[head + str(count) + tail for count in range(1, 16)])
            self.expect_fault(head + "0" + tail, head)
            self.expect_fault(head + "01" + tail, head)
            self.expect_fault(head + "16" + tail, head + "1")
            self.expect_fault(head + "19" + tail, head + "1")
            self.expect_fault(head + "20" + tail, head + "2")
            self.expect_fault(head + "100" + tail, head + "10")
            self.expect_fault(head + "155" + tail, head + "15")
            self.expect_fault(head + "1a\n", head + "1")
            self.expect_fault(head + "15\n", head + "15")
            self.expect_fault(head + "-2" + tail, head if head.endswith("- ") or head.endswith("+ ") else head + "-")
            self.expect_fault(head + "2 2" + tail, head + "2 ")

    def test_number(self):
        for head, tail in (
            ("angle x ", " 0\n"), ("angle x 0 ", "\n"),
            (ANGLES + "wave w a shift ", " a\n"), (ANGLES + "wave w a factor 0.1 a shift ", " b\n"),
        ):
            for number in ("0", "7", "12", "360", "999", "007", "000", "0.0", "1.5", "0.123456789012",
                           "999.999999999999", "1.000000000000"):
                self.expect_right(head + number + tail, head + "-" + number + tail)
            for sign in ("", "-"):
                self.expect_fault(head + sign + "1234" + tail, head + sign + "123")
                self.expect_fault(head + sign + "0000" + tail, head + sign + "000")
                self.expect_fault(head + sign + "1.1234567890123" + tail, head + sign + "1.123456789012")
                self.expect_fault(head + sign + "1." + tail, head + sign + "1.")
                self.expect_fault(head + sign + ".5" + tail, head + sign)
                self.expect_fault(head + sign + "1.-5" + tail, head + sign + "1.")
                self.expect_fault(head + sign + "1.5.5" + tail, head + sign + "1.5")
                self.expect_fault(head + sign + "a" + tail, head + sign)
            self.expect_fault(head + "+1" + tail, head)
            self.expect_fault(head + "--1" + tail, head + "-")
            self.expect_fault(head + "- 1" + tail, head + "-")

    def test_number_of_a_factor(self):
        head = ANGLES + "wave w a factor "
        self.expect_right(head + "0.5 a\n", head + "-0.5 a\n", head + "000.999999999999 a\n", head + "-000 a\n")
        self.expect_fault(head + "0000 a\n", head + "000")
        self.expect_fault(head + "0.0000000000000 a\n", head + "0.000000000000")
        self.expect_fault(head + "- 0.5 a\n", head + "-")

    def test_terms(self):
        eight = "a" + " + a" * 7
        head = ANGLES + "wave w "
        self.expect_right(head + eight + "\n", head + "- " + eight + "\n", head + eight + " turn 90\n")
        self.expect_right(head + eight + " factor 0.5 " + eight + " shift 1 " + eight + "\n")
        # Behind a wave's eighth term the blank may still come, before another word.
        self.expect_fault(head + eight + " + a\n", head + eight + " ")
        self.expect_fault(head + eight + " - a\n", head + eight + " ")
        self.expect_fault(head + "- " + eight + " - a\n", head + "- " + eight + " ")
        part = head + "a factor 0.5 " + eight
        self.expect_fault(part + " + a\n", part + " ")
        part = head + "a shift 0.5 " + eight
        self.expect_fault(part + " + a\n", part + " ")

    def test_terms_of_a_sum(self):
        head = ANGLES + "wave w a\nsum s "
        eight = "w" + " - w" * 7
        self.expect_right(head + eight + "\n")
        self.expect_fault(head + eight + " + w\n", head + eight)
        self.expect_fault(head + eight + " \n", head + eight)
        self.expect_fault(head + "- " + eight + " - w\n", head + "- " + eight)
        self.expect_fault(head + eight[:-4] + " * w\n", head + eight[:-4] + " ")

    def test_terms_where_only_the_end_may_come(self):
        eight = "a" + " + a" * 7
        head = ANGLES + "wave w a" + " shift 1 a" * 7
        # The eighth shift's eighth term: neither a term nor a shift may follow.
        self.expect_right(head + " shift 1 " + eight + "\n")
        self.expect_fault(head + " shift 1 " + eight + " + a\n", head + " shift 1 " + eight)
        self.expect_fault(head + " shift 1 " + eight + " shift 1 a\n", head + " shift 1 " + eight)
        # The seventh's: a shift may.
        head = ANGLES + "wave w a" + " shift 1 a" * 6
        self.expect_fault(head + " shift 1 " + eight + " + a\n", head + " shift 1 " + eight + " ")
        # The eighth factor's: a shift may.
        head = ANGLES + "wave w a" + " factor 0.1 a" * 7
        self.expect_right(head + " factor 0.1 " + eight + " shift 1 a\n")
        self.expect_fault(head + " factor 0.1 " + eight + " + a\n", head + " factor 0.1 " + eight + " ")

    def test_factors(self):
        head = ANGLES + "wave w a"
        for count in range(9):
            self.expect_right(head + " factor 0.1 a" * count + "\n")
        self.expect_fault(head + " factor 0.1 a" * 9 + "\n", head + " factor 0.1 a" * 8 + " ")
        self.expect_right(head + " turn 90" + " factor 0.1 a" * 8 + " shift 1 a" * 8 + "\n")

    def test_shifts(self):
        head = ANGLES + "wave w a"
        for count in range(9):
            self.expect_right(head + " shift 0.1 a" * count + "\n")
        # The blank may still come, before another term.
        self.expect_fault(head + " shift 1 a" * 9 + "\n", head + " shift 1 a" * 8 + " ")
        self.expect_fault(head + " factor 0 a" + " shift 1 a" * 9 + "\n", head + " factor 0 a" + " shift 1 a" * 8 + " ")

    def test_shift_before_a_factor(self):
        head = ANGLES + "wave w a shift 1 a"
        self.expect_fault(head + " factor 0.1 a\n", head + " ")
        head = ANGLES + "wave w a factor 0.1 a shift 1 a"
        self.expect_fault(head + " factor 0.1 a\n", head + " ")

    def test_names_are_not_the_grammar(self):
        text = "wave w q factor 0.1 q shift 1 q\nsum s q\n"
        self.expect(text, 3, "wave w ")
        self.expect_fault(text + "sum s q", text + "sum s q")


class Kinds(Judged):
    def test_name_twice(self):
        head = ANGLES + "wave w a\nsum s w\n"
        for name in ("a", "b", "w", "s"):
            self.expect(head + f"angle {name} 0 1\n", 2, head + "angle ")
            self.expect(head + f"wave {name} a\n", 2, head + "wave ")
            self.expect(head + f"sum {name} w\n", 2, head + "sum ")
        self.expect_right(head + "angle A 0 1\nwave W a\nsum S w\n")

    def test_name_in_a_wave(self):
        head = ANGLES + "wave w a\nsum s w\n"
        for name in ("q", "w", "s", "x", "A", "aa"):
            for before in ("wave x ", "wave x - ", "wave x 2 ", "wave x a + ", "wave x a + 15 ", "wave x a factor 0.1 ",
                           "wave x a factor 0.1 a - ", "wave x a shift 1 ", "wave x a shift 1 a + 3 ",
                           "wave x a turn 90 factor 0.1 a shift 1 b shift 1 - "):
                self.expect(head + before + name + "\n", 3, head + before)
                self.expect(head + before + name + " + q\n", 3, head + before)
                self.expect_right(head + before + "a\n")

    def test_name_in_a_sum(self):
        head = ANGLES + "wave w a\nsum s w\n"
        for name in ("q", "a", "s", "x", "W"):
            for before in ("sum x ", "sum x - ", "sum x 2 ", "sum x w - ", "sum x w + 3 "):
                self.expect(head + before + name + "\n", 3, head + before)
                self.expect_right(head + before + "w\n")

    def test_name_of_a_later_line(self):
        self.expect("wave w a\nangle a 0 1\n", 3, "wave w ")
        self.expect(ANGLES + "sum s w\nwave w a\n", 3, ANGLES + "sum s ")

    def test_seventeenth_angle(self):
        sixteen = "".join([f"angle a{number} 0 1\n" for number in range(16)])
        self.expect_right(sixteen)
        self.expect(sixteen + "angle x 0 1\n", 4, sixteen + "angle ")
        self.expect(sixteen + "angle x 0 1\nangle y 0 1\n", 4, sixteen + "angle ")
        self.expect(sixteen + "wave w a0\nangle x 0 1\n", 4, sixteen + "wave w a0\nangle ")
        waves = "".join([f"wave w{number} a0\n" for number in range(128)])
        self.expect_right(sixteen + waves)
        self.expect(sixteen + waves + "angle x 0 1\n", 4, sixteen + waves + "angle ")

    def test_hundred_and_twenty_ninth_wave_or_sum(self):
        for waves in (1, 64, 127, 128):
            lines = [f"wave w{number} a\n" for number in range(waves)]
            lines += [f"sum s{number} w0\n" for number in range(128 - waves)]
            text = ANGLES + "".join(lines)
            self.expect_right(text)
            self.expect_right(text + "angle x 0 1\n")
            self.expect(text + "wave x a\n", 4, text + "wave ")
            self.expect(text + "sum x w0\n", 4, text + "sum ")
            self.expect(text + "angle x 0 1\nsum x0 w0\nsum x1 w0\n", 4, text + "angle x 0 1\nsum ")

    def test_factors_together(self):
        head = ANGLES + "wave w a"
        for numbers, right in (
            (["0.999999999999"], True), (["1"], False), (["1.0"], False), (["1.000000000001"], False), (["2"], False),
            (["-0.999999999999"], True), (["-1"], False), (["999"], False), (["-999.5"], False), (["001"], False),
            (["0.5", "0.499999999999"], True), (["0.5", "0.5"], False), (["-0.5", "0.5"], False),
            (["-0.5", "-0.5"], False), (["-0.5", "0.499999999999"], True), (["0.5", "-0.500000000001"], False),
            (["0.1"] * 8, True), (["0.125"] * 8, False), (["0.125"] * 7 + ["-0.124999999999"], True),
            (["0.9", "0.09", "0.009", "0.001"], False), (["0.9", "0.09", "0.009", "0.0009"], True),
            (["0", "-0", "0.0"], True), (["-0.9", "-0.2"], False),
        ):
            text = head + "".join([f" factor {number} a" for number in numbers]) + "\n"
            if right:
                self.expect_right(text)
            else:
                self.expect(text, 5, ANGLES + "wave ")

    def test_shifts_together_have_no_bound(self):
        self.expect_right(ANGLES + "wave w a" + " shift 999.9 a" * 8 + "\n")

    def test_counts_together(self):
        head = ANGLES + "wave w a\nwave v b\n"
        for counts, right in (
            ("12 w", True), ("13 w", False), ("- 12 w", True), ("- 13 w", False), ("15 w", False),
            ("11 w + v", True), ("12 w + v", False), ("12 w - v", False), ("6 w - 6 v", True), ("6 w - 7 v", False),
            ("w" + " + w" * 7, True), ("5 w" + " - v" * 7, True), ("6 w" + " - v" * 7, False), ("- 7 w - 5 v", True),
        ):
            text = head + f"sum s {counts}\n"
            if right:
                self.expect_right(text)
            else:
                self.expect(text, 5, head + "sum ")

    def test_counts_of_a_wave_have_no_bound(self):
        self.expect_right(ANGLES + "wave w 15 a" + " + 15 b" * 7 + "\n")
        self.expect_right(ANGLES + "wave w a factor 0.1 15 a + 15 b shift 1 15 a - 15 b\n")

    def test_of_two_at_one_place_the_lesser_kind(self):
        self.expect(ANGLES + "wave a a factor 1 a\n", 2, ANGLES + "wave ")
        self.expect(ANGLES + "wave w a\nsum a 13 w\n", 2, ANGLES + "wave w a\nsum ")
        sixteen = "".join([f"angle a{number} 0 1\n" for number in range(16)])
        self.expect(sixteen + "angle a3 0 1\n", 2, sixteen + "angle ")
        many = ANGLES + "".join([f"wave w{number} a\n" for number in range(128)])
        self.expect(many + "wave w a factor 1 a\n", 4, many + "wave ")
        self.expect(many + "sum s 13 w0\n", 4, many + "sum ")
        self.expect(many + "sum w5 13 w0\n", 2, many + "sum ")

    def test_first_by_place(self):
        self.expect(ANGLES + "wave w q factor 1 q\n", 5, ANGLES + "wave ")
        self.expect(ANGLES + "wave a q\n", 2, ANGLES + "wave ")
        self.expect(ANGLES + "sum s 13 q\n", 5, ANGLES + "sum ")
        self.expect(ANGLES + "wave w a + q\nwave a a\n", 3, ANGLES + "wave w a + ")
        self.expect(ANGLES + "wave w a\nwave w q\nsum s 13 w\n", 2, ANGLES + "wave w a\nwave ")
        self.expect(ANGLES + "wave w a shift 1 q\nwave v a factor 1 a\n", 3, ANGLES + "wave w a shift 1 ")
        self.expect(ANGLES + "wave w a factor 0.5 q shift 1 p\n", 3, ANGLES + "wave w a factor 0.5 ")
        many = ANGLES + "".join([f"wave w{number} a\n" for number in range(127)])
        self.expect(many + "sum s q\nsum t w0\n", 3, many + "sum s ")

    def test_grammar_before_them_all(self):
        for text in (
            ANGLES + "wave a a\n", ANGLES + "wave w q\n", ANGLES + "wave w a factor 1 a\n",
            "".join([f"angle a{number} 0 1\n" for number in range(17)]),
        ):
            self.assertNotIn(self.judged(text)[1:2], ([], [1]))
            self.expect(text + "angle", 1, text + "angle")
            self.expect(text + "wave x a + 16 a\n", 1, text + "wave x a + 1")


class Kept(unittest.TestCase):
    def test_rates(self):
        lines = read_sky(bytes_of("angle a 12 -0.5490165\nangle b -1.5 015\nwave w a\n"))
        self.assertEqual([line.rate for line in lines], [-549016500000, 15 * 10 ** 12, 0])
        self.assertEqual([bytes(line.name) for line in lines], [b"a", b"b", b"w"])

    def test_terms(self):
        text = ANGLES + "wave w - 2 a + 15 b - a + b turn 90 factor -0.25 - a shift 2 b - 10 a\nsum s 3 w - w\n"
        lines = read_sky(bytes_of(text))

        def shown(terms):
            return [(term.times, bytes(term.name)) for term in terms]

        wave = lines[2]
        self.assertEqual(shown(wave.terms), [(-2, b"a"), (15, b"b"), (-1, b"a"), (1, b"b")])
        self.assertEqual([(part.number, shown(part.terms)) for part in wave.factors], [(-25 * 10 ** 10, [(-1, b"a")])])
        self.assertEqual([(part.number, shown(part.terms)) for part in wave.shifts],
                         [(2 * 10 ** 12, [(1, b"b"), (-10, b"a")])])
        self.assertEqual(shown(lines[3].terms), [(3, b"w"), (-1, b"w")])


if __name__ == "__main__":
    unittest.main()
