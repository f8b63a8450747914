"""`machine t`: the grammar's places, and kinds 2, 3 and 4."""

import unittest

from tests.helper import SIZE, TextCase, asked, machine

RIGHT = [0]


def fault(kind, place):
    return [-6, kind, place]


def train(name="A", size="1", start="0", pairs="1/1"):
    return f"crank 1 1\ntrain {name} {size} {start} {pairs}\n"


class Judged(TextCase):
    def call(self, text):
        return machine(text)


class Grammar(Judged):
    def test_ordinary(self):
        self.expect_right(
            "crank 1 1\n",
            "crank 600 720\n",
            "crank 100 720\ntrain M2 1.5 3 44/45 7/8\ntrain S2 0.6025 0 1/2\n",
            train(pairs="1/1 2/2 3/3 4/4 5/5 6/6"),
            train(name="crank"), train(name="train"), train(name="turn"),
        )

    def test_empty(self):
        self.expect_fault("", "")

    def test_cut_anywhere(self):
        text = "crank 999 99999\ntrain Abcdef7 12.3456 998 123/456 78/9 1/999\ntrain b 0 0 1/1\n"
        ends = [place + 1 for place, sign in enumerate(text) if sign == "\n"]
        for place in range(len(text)):
            if place not in ends:
                self.expect_fault(text[:place], text[:place])
        self.expect_right(*[text[:end] for end in ends])

    def test_line_without_its_end(self):
        self.expect_fault("crank 1 1", "crank 1 1")
        self.expect_fault(train()[:-1], train()[:-1])
        self.expect_fault(train()[:-1] + "\r\n", train()[:-1])
        self.expect_fault("crank 1 1\x00", "crank 1 1")
        self.expect_fault("crank 1 1\n\xff", "crank 1 1\n")

    def test_empty_lines(self):
        self.expect_fault("\ncrank 1 1\n", "")
        self.expect_fault("crank 1 1\n\n", "crank 1 1\n")
        self.expect_fault(train() + "\n", train())

    def test_words(self):
        self.expect_fault("Crank 1 1\n", "")
        self.expect_fault("crack 1 1\n", "cra")
        self.expect_fault("train A 1 0 1/1\n", "")
        self.expect_fault("crank 1 1\ncrank 1 1\n", "crank 1 1\n")
        self.expect_fault("crank 1 1\ntrial A 1 0 1/1\n", "crank 1 1\ntr")
        self.expect_fault("crank 1 1\nTrain A 1 0 1/1\n", "crank 1 1\n")

    def test_every_other_byte(self):
        head = "crank 1 1"
        for byte in range(256):
            text = list(head.encode()) + [byte]
            if byte == 10:
                wanted = RIGHT
            elif 48 <= byte <= 57:
                wanted = fault(1, len(head) + 1)
            else:
                wanted = fault(1, len(head))
            with self.subTest(byte=byte):
                self.assertEqual(self.judged(text), wanted)

    def test_teeth_of_the_crank(self):
        self.expect_right("crank 1 1\n", "crank 10 1\n", "crank 999 1\n")
        self.expect_fault("crank 0 1\n", "crank ")
        self.expect_fault("crank 01 1\n", "crank ")
        self.expect_fault("crank 1000 1\n", "crank 100")
        self.expect_fault("crank -1 1\n", "crank ")
        self.expect_fault("crank +1 1\n", "crank ")
        self.expect_fault("crank 1.0 1\n", "crank 1")
        self.expect_fault("crank  1\n", "crank ")

    def test_teeth_of_pairs(self):
        head = "crank 1 1\ntrain A 1 0 "
        self.expect_right(head + "1/1\n", head + "999/999\n", head + "100/1\n")
        self.expect_fault(head + "0/1\n", head)
        self.expect_fault(head + "01/1\n", head)
        self.expect_fault(head + "1000/1\n", head + "100")
        self.expect_fault(head + "1/0\n", head + "1/")
        self.expect_fault(head + "1/01\n", head + "1/")
        self.expect_fault(head + "1/1000\n", head + "1/100")
        self.expect_fault(head + "1/1 0/1\n", head + "1/1 ")
        self.expect_fault(head + "1/1 1/0\n", head + "1/1 1/")
        self.expect_fault(head + "1\n", head + "1")
        self.expect_fault(head + "1/\n", head + "1/")
        self.expect_fault(head + "1 / 1\n", head + "1")
        self.expect_fault(head + "1//1\n", head + "1/")
        self.expect_fault(head + "1/1/1\n", head + "1/1")

    def test_minutes(self):
        self.expect_right("crank 1 1\n", "crank 1 10\n", "crank 1 99999\n")
        self.expect_fault("crank 1 0\n", "crank 1 ")
        self.expect_fault("crank 1 01\n", "crank 1 ")
        self.expect_fault("crank 1 100000\n", "crank 1 10000")
        self.expect_fault("crank 1 \n", "crank 1 ")
        self.expect_fault("crank 1\n", "crank 1")

    def test_start(self):
        head = "crank 1 1\ntrain A 1 "
        self.expect_right(head + "0 1/1\n", head + "10 1/11\n", head + "998 1/999\n")
        self.assertEqual(self.judged(head + "999999 1/1\n"), fault(4, len(head)))
        self.expect_fault(head + "1000000 1/1\n", head + "100000")
        self.expect_fault(head + "00 1/1\n", head + "0")
        self.expect_fault(head + "01 1/2\n", head + "0")
        self.expect_fault(head + "-1 1/1\n", head)
        self.expect_fault(head + "0.0 1/1\n", head + "0")
        self.expect_fault(head + " 1/1\n", head)
        self.expect_fault(head + "1/1\n", head + "1")

    def test_size(self):
        head = "crank 1 1\ntrain A "
        for size in ("0", "00", "7", "07", "99", "0.0", "1.5", "12.34", "12.345", "12.3456", "00.0000", "99.9999"):
            self.expect_right(head + size + " 0 1/1\n")
        self.expect_fault(head + "123 0 1/1\n", head + "12")
        self.expect_fault(head + "000 0 1/1\n", head + "00")
        self.expect_fault(head + "123.4 0 1/1\n", head + "12")
        self.expect_fault(head + "1. 0 1/1\n", head + "1.")
        self.expect_fault(head + "12. 0 1/1\n", head + "12.")
        self.expect_fault(head + "1.23456 0 1/1\n", head + "1.2345")
        self.expect_fault(head + "1.00000 0 1/1\n", head + "1.0000")
        self.expect_fault(head + ".5 0 1/1\n", head)
        self.expect_fault(head + "-1 0 1/1\n", head)
        self.expect_fault(head + "1.2.3 0 1/1\n", head + "1.2")
        self.expect_fault(head + "1,5 0 1/1\n", head + "1")

    def test_name(self):
        head = "crank 1 1\ntrain "
        tail = " 1 0 1/1\n"
        for name in ("A", "Z", "a", "z", "A0", "z9", "Abcdef7", "zzzzzzz", "M123456"):
            self.expect_right(head + name + tail)
        self.expect_fault(head + "Abcdefgh" + tail, head + "Abcdefg")
        self.expect_fault(head + "A1234567" + tail, head + "A123456")
        self.expect_fault(head + "2M" + tail, head)
        self.expect_fault(head + "" + tail, head)
        self.expect_fault(head + "M_2" + tail, head + "M")
        # The bytes beside the letters and digits.
        for sign in "@[`{/:\xc4\xe4":
            self.expect_fault(head + sign + tail, head)
            self.expect_fault(head + "M" + sign + tail, head + "M")

    def test_pairs(self):
        head = "crank 1 1\ntrain A 1 0"
        self.expect_fault(head + "\n", head)
        self.expect_fault(head + " \n", head + " ")
        for count in range(1, 7):
            self.expect_right(head + " 1/1" * count + "\n")
        self.expect_fault(head + " 1/1" * 7 + "\n", head + " 1/1" * 6)
        self.expect_fault(head + " 1/1" * 6 + " \n", head + " 1/1" * 6)

    def test_blanks(self):
        self.expect_fault("crank  1 1\n", "crank ")
        self.expect_fault("crank 1  1\n", "crank 1 ")
        self.expect_fault("crank 1 1 \n", "crank 1 1")
        self.expect_fault(" crank 1 1\n", "")
        self.expect_fault("crank\t1 1\n", "crank")
        head = "crank 1 1\n"
        self.expect_fault(head + " train A 1 0 1/1\n", head)
        self.expect_fault(head + "train  A 1 0 1/1\n", head + "train ")
        self.expect_fault(head + "train A  1 0 1/1\n", head + "train A ")
        self.expect_fault(head + "train A 1  0 1/1\n", head + "train A 1 ")
        self.expect_fault(head + "train A 1 0  1/1\n", head + "train A 1 0 ")
        self.expect_fault(head + "train A 1 0 1/1  1/1\n", head + "train A 1 0 1/1 ")
        self.expect_fault(head + "train A 1 0 1/1 \n", head + "train A 1 0 1/1 ")


def many_trains(count, change=None):
    """A machine's text with trains T0, T1, ..., those in change (number: line) otherwise."""
    lines = ["crank 1 1\n"]
    for number in range(count):
        line = f"train T{number} 1 0 1/2\n"
        lines.append((change or {}).get(number, line))
    return "".join(lines)


class Kinds(Judged):
    def test_name_twice(self):
        text = "crank 1 1\ntrain A 1 0 1/1\ntrain B 1 0 1/1\ntrain A 2 0 1/2\n"
        self.assertEqual(self.judged(text), fault(2, text.rindex("A")))
        self.assertEqual(self.judged(text.replace("train A 2", "train a 2")), RIGHT)
        self.assertEqual(self.judged(text.replace("train A 2", "train A0 2")), RIGHT)

    def test_sixty_fifth_train(self):
        self.assertEqual(asked(machine(many_trains(64)), SIZE), [[0], [0, 64, 1, 1]])
        for count in (65, 66, 90):
            text = many_trains(count)
            self.assertEqual(self.judged(text), fault(3, text.index("T64")))

    def test_each_train_behind_the_sixty_fourth(self):
        # All from the 65th on are at fault, so a name that stands twice there is behind the fault already.
        text = many_trains(67, {65: "train T0 1 0 1/2\n"})
        self.assertEqual(self.judged(text), fault(3, text.index("T64")))

    def test_start_below_the_last_teeth(self):
        for start, pairs, right in (
            ("0", "1/1", True), ("1", "1/1", False), ("1", "1/2", True), ("2", "1/2", False),
            ("3", "9/2 1/4", True), ("4", "9/9 1/4", False), ("1", "1/9 9/1", False),
            ("998", "1/999", True), ("999", "1/999", False), ("999999", "1/999", False), ("44", "99/45", True),
            ("45", "99/45", False),
        ):
            text = train(start=start, pairs=pairs)
            wanted = RIGHT if right else fault(4, text.index(f" {start} {pairs}") + 1)
            with self.subTest(text=text):
                self.assertEqual(self.judged(text), wanted)

    def test_first_by_place(self):
        head = "crank 1 1\ntrain A 1 0 1/1\n"
        text = head + "train B 1 2 1/2\ntrain A 1 0 1/1\n"
        self.assertEqual(self.judged(text), fault(4, text.index("2 1/2")))
        text = head + "train A 1 2 1/2\ntrain B 1 2 1/2\n"
        self.assertEqual(self.judged(text), fault(2, text.rindex("A")))
        text = many_trains(66, {63: "train T63 1 2 1/2\n"})
        self.assertEqual(self.judged(text), fault(4, text.index("2 1/2\ntrain T64")))
        text = many_trains(66, {64: "train T64 1 2 1/2\n"})
        self.assertEqual(self.judged(text), fault(3, text.index("T64")))
        text = many_trains(66, {63: "train T9 1 0 1/2\n"})
        self.assertEqual(self.judged(text), fault(2, text.rindex("T9 ")))

    def test_of_two_at_one_place_the_lesser_kind(self):
        text = many_trains(65, {64: "train T63 1 0 1/2\n"})
        self.assertEqual(self.judged(text), fault(2, text.rindex("T63")))
        text = many_trains(66, {64: "train T0 1 5 1/2\n"})
        self.assertEqual(self.judged(text), fault(2, text.rindex("T0 ")))

    def test_grammar_before_them_all(self):
        for bad in ("train A 1 0 1/1\n", "train B 1 1 1/1\n"):
            text = "crank 1 1\ntrain A 1 0 1/1\n" + bad
            self.assertEqual(self.judged(text)[0], -6)
            self.assertNotEqual(self.judged(text)[1], 1)
            self.assertEqual(self.judged(text + "train C 1 0 1/1"), fault(1, len(text) + 15))
            self.assertEqual(self.judged(text + "x"), fault(1, len(text)))
        text = many_trains(70)
        self.assertEqual(self.judged(text[:-1]), fault(1, len(text) - 1))
        self.assertEqual(self.judged(text + "train T0 1 0\n"), fault(1, len(text) + 12))


if __name__ == "__main__":
    unittest.main()
