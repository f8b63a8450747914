"""The interface: how calls and answers are laid out, -3, and what stays as it was."""

import contextlib
import io
import subprocess
import sys
import unittest

from tests.helper import PRINT, SIZE, asked, asked_last, bytes_of, machine, sky, speed
from tidemachine.desk import Desk, answer_to, answers

TEXT = "crank 100 720\ntrain M2 1.50 3 44/45 7/8\n"
PRINTED = "crank 100 720\ntrain M2 1.5 3 44/45 7/8\n"
OTHER = "crank 7 60\n"
WRONG = "crank 7 60\ntrain A 1 0 1/1\ntrain A 1 0 1/1\n"
SKY = "angle s 0 30\nwave M2 2 s\n"
WRONG_SKY = "angle s 0 30\nwave s s\n"

RIGHT = [7, 0, 1]
FIRST = [8, 1]


class Layout(unittest.TestCase):
    def test_several_calls_in_one_list(self):
        calls = machine(TEXT) + SIZE + speed(0) + speed(1) + sky("") + PRINT + machine("crank x")
        wanted = [1, 0] + [4, 0, 1, 100, 720] + [3, 0, 77, 64800] + [1, -4] + [1, 0]
        wanted += [2 + len(PRINTED), 0, len(PRINTED)] + bytes_of(PRINTED) + [3, -6, 1, 6]
        self.assertEqual(answers(calls), wanted)

    def test_one_call_alone(self):
        self.assertEqual(answers([0, 0]), [3, -6, 1, 0])
        self.assertEqual(answers([1, 0]), [1, 0])
        self.assertEqual(answers([2]), [1, -3])
        self.assertEqual(answers([3]), [1, -3])
        self.assertEqual(answers([4, 0]), [1, -3])

    def test_fault_is_three_numbers(self):
        self.assertEqual(answers(machine(WRONG)), [3, -6, 2, 33])
        self.assertEqual(answers(sky(WRONG_SKY)), [3, -6, 2, 18])

    def test_only_whole_numbers_are_answered(self):
        told = answers(machine(TEXT) + SIZE + speed(0) + speed(9) + PRINT + sky(SKY) + sky("x") + machine(""))
        self.assertIs(type(told), list)
        self.assertEqual({type(number) for number in told}, {int})

    def test_what_is_handed_in_is_as_it_was(self):
        calls = machine(TEXT) + sky(SKY) + PRINT + SIZE + speed(0) + machine(WRONG) + sky(WRONG_SKY)
        before = list(calls)
        answers(calls)
        self.assertEqual(calls, before)

    def test_what_is_handed_in_is_not_touched_for_a_while_either(self):
        class Untouched(list):
            def refuse(self, *given):
                raise AssertionError("the list that was handed in is changed")

            append = extend = insert = pop = remove = clear = sort = reverse = refuse
            __setitem__ = __delitem__ = __iadd__ = __imul__ = refuse

        calls = machine(TEXT) + sky(SKY) + PRINT + SIZE + speed(0) + machine(WRONG)
        self.assertEqual(answers(Untouched(calls)), answers(calls))

    def test_two_runs_answer_alike(self):
        calls = SIZE + machine(TEXT) + sky(SKY) + PRINT + SIZE + speed(0)
        once = answers(calls)
        self.assertEqual(answers(calls), once)
        self.assertEqual(answers(SIZE), [1, -3])

    def test_what_is_answered_belongs_to_the_asker(self):
        calls = machine(TEXT) + PRINT
        once = answers(calls)
        kept = list(once)
        once.clear()
        self.assertEqual(answers(calls), kept)

    def test_three_hundred_calls(self):
        told = asked(machine(TEXT), *[SIZE] * 299)
        self.assertEqual(told, [[0]] + [[0, 1, 100, 720]] * 299)

    def test_longest_texts(self):
        train = "train Abcdefg 01.0000 0 100/100 100/100 100/100 100/100 100/100 100/100\n"
        text = "crank 1 1\n" + train * ((29900 - 10) // len(train))
        self.assertEqual(asked(machine(text)), [[-6, 2, text.index("Abc", 20)]])
        line = "wave a b\n"
        text = line * (29900 // len(line))
        self.assertEqual(asked(sky(text)), [[-6, 3, 7]])
        self.assertEqual(asked(sky("sum " + "a" * 29896)), [[-6, 1, 11]])
        self.assertEqual(asked(machine([10] * 29900)), [[-6, 1, 0]])

    def test_nothing_is_printed_read_or_imported(self):
        calls = machine(TEXT) + PRINT + sky(SKY)
        answers(calls)
        modules = set(sys.modules)
        out = io.StringIO()
        with contextlib.redirect_stdout(out), contextlib.redirect_stderr(out):
            answers(calls)
        self.assertEqual(out.getvalue(), "")
        self.assertEqual(set(sys.modules), modules)

    def test_package_draws_in_its_own_files_alone(self):
        code = "import sys; before = set(sys.modules); import tidemachine.desk; print(*(set(sys.modules) - before))"
        done = subprocess.run([sys.executable, "-c", code], capture_output=True, text=True, check=True)
        for name in done.stdout.split():
            self.assertEqual(name.partition(".")[0], "tidemachine")


class NoMachine(unittest.TestCase):
    def test_before_there_is_a_machine(self):
        for call in (PRINT, SIZE, speed(0), speed(4294967296)):
            self.assertEqual(asked(call), [[-3]])
            self.assertEqual(asked(sky(SKY), call), [[0], [-3]])

    def test_later_calls_answer_it_too(self):
        later = ([5, 0, 0], [6, 0, 0], RIGHT, FIRST, [9, 0, 1, 1, 0, 1])
        self.assertEqual(asked(*later, SIZE), [[-3]] * 6)
        self.assertEqual(asked(sky(SKY), *later, SIZE), [[0]] + [[-3]] * 6)

    def test_right_and_first_before_there_is_a_sky(self):
        self.assertEqual(asked(machine(TEXT), RIGHT, FIRST), [[0], [-3], [-3]])

    def test_refused_machine_leaves_none(self):
        for text in (WRONG, "", "crank 7 60"):
            told = asked(machine(text), PRINT, SIZE, speed(0))
            self.assertEqual(told[0][0], -6)
            self.assertEqual(told[1:], [[-3]] * 3)

    def test_refused_machine_leaves_the_one_before(self):
        before = asked(machine(TEXT), PRINT, SIZE, speed(0), speed(1))[1:]
        for text in (WRONG, "", "crank 7 60", TEXT + "train M3 1 8 1/8\n", "crank 9 9\ntrain"):
            told = asked(machine(TEXT), machine(text), PRINT, SIZE, speed(0), speed(1))
            self.assertEqual(told[1][0], -6)
            self.assertEqual(told[2:], before)

    def test_right_machine_takes_the_place_of_the_one_before(self):
        told = asked(machine(TEXT), machine(OTHER), SIZE, speed(0), PRINT)
        self.assertEqual(told, [[0], [0], [0, 0, 7, 60], [-4], [0, len(OTHER)] + bytes_of(OTHER)])

    def test_sky_leaves_the_machine(self):
        before = asked(machine(TEXT), PRINT, SIZE, speed(0))[1:]
        self.assertEqual(asked(machine(TEXT), sky(SKY), sky(WRONG_SKY), PRINT, SIZE, speed(0))[3:], before)

    def test_refused_sky_leaves_none(self):
        told = asked(machine(TEXT), sky(WRONG_SKY), sky("x"), RIGHT, FIRST)
        self.assertEqual(told, [[0], [-6, 2, 18], [-6, 1, 0], [-3], [-3]])

    def test_refused_sky_leaves_the_one_before(self):
        desk = Desk()
        for text in ("", SKY):
            self.assertEqual(answer_to(desk, 1, sky(text)[1:]), [0])
            kept = desk.sky
            self.assertIsNotNone(kept)
            for wrong in (WRONG_SKY, "x", "angle"):
                self.assertEqual(answer_to(desk, 1, sky(wrong)[1:])[0], -6)
                self.assertIs(desk.sky, kept)

    def test_machine_leaves_the_sky(self):
        desk = Desk()
        answer_to(desk, 1, sky(SKY)[1:])
        kept = desk.sky
        answer_to(desk, 0, machine(TEXT)[1:])
        answer_to(desk, 0, machine(WRONG)[1:])
        self.assertIs(desk.sky, kept)

    def test_calls_within_a_row_are_not_calls(self):
        self.assertEqual(asked_last(machine([2, 3, 4, 0]), SIZE), [-3])


if __name__ == "__main__":
    unittest.main()
