"""The interface: how calls and answers are laid out, -3, and what stays as it was."""

import contextlib
import io
import subprocess
import sys
import unittest

from tests.helper import (
    FAR, PRINT, SIZE, asked, asked_last, at, bytes_of, draw, first, machine, pen, right, sky, speed,
)
from tidemachine.desk import Desk, answer_to, answers

TEXT = "crank 100 720\ntrain M2 1.50 3 44/45 7/8\n"
PRINTED = "crank 100 720\ntrain M2 1.5 3 44/45 7/8\n"
OTHER = "crank 7 60\n"
WRONG = "crank 7 60\ntrain A 1 0 1/1\ntrain A 1 0 1/1\n"
SKY = "angle s 0 30\nwave M2 2 s\n"
WRONG_SKY = "angle s 0 30\nwave s s\n"

RIGHT = right(0, 1)
FIRST = first(1)

# All calls that don't change the object, answered and refused.
ASKS = PRINT + SIZE + speed(0) + speed(1) + at(0, 7) + at(0, -7) + at(1, 0) + at(0, FAR) + pen(-1, 3) + pen(0, 0)
ASKS += pen(0, 257) + right(0, 3) + right(1, 1) + right(0, 0) + first(3) + first(0) + draw(0, 9, 2, -9, 999)
ASKS += draw(0, 0, 2, -9, 999)


class Layout(unittest.TestCase):
    def test_several_calls_in_one_list(self):
        calls = machine(TEXT) + SIZE + speed(0) + speed(1) + sky("") + PRINT + machine("crank x")
        wanted = [1, 0] + [4, 0, 1, 100, 720] + [3, 0, 77, 64800] + [1, -4] + [1, 0]
        wanted += [2 + len(PRINTED), 0, len(PRINTED)] + bytes_of(PRINTED) + [3, -6, 1, 6]
        self.assertEqual(answers(calls), wanted)

    def test_at_pen_and_draw(self):
        text = "crank 4 60\ntrain A 0.0010 1 1/2\n"
        calls = machine(text) + at(0, 1) + at(1, 0) + at(0, FAR) + pen(-1, 3) + pen(0, 0) + pen(0, 257)
        calls += draw(0, 9, 2, -10, 10) + draw(0, 9, 2, -10, 0) + SIZE
        wanted = [1, 0] + [4, 0, 5, 8, 2684354560] + [1, -4] + [1, -1] + [5, 0, 3, -7, -10, -7] + [2, 0, 0] + [1, -1]
        wanted += [6, 0, 4, 0b00110110, 0, 0b11000001, 0b10000000] + [1, -1] + [4, 0, 1, 4, 60]
        self.assertEqual(answers(calls), wanted)

    def test_right_and_first(self):
        text = "crank 10 60\ntrain A 1 0 1/1\ntrain B 1 0 1/2\n"
        calls = machine(text) + sky("angle a 0 360\nwave A a\nwave B 2 a\n")
        calls += right(0, 1) + right(1, 1) + right(2, 1) + right(0, 0) + first(4) + first(0)
        wanted = [1, 0, 1, 0] + [1, 0] + [2, 1, 7] + [1, -4] + [1, -1] + [3, 1, 1, 2] + [1, -1]
        calls += sky("angle A 0 360\nwave B A\n") + right(0, 1) + right(1, 1) + first(1)
        wanted += [1, 0] + [1, -9] + [2, 1, 20] + [1, -9]
        calls += machine("crank 7 60\n") + right(0, 1) + first(1)
        wanted += [1, 0] + [1, -4] + [1, 0]
        self.assertEqual(answers(calls), wanted)

    def test_one_call_alone(self):
        self.assertEqual(answers([0, 0]), [3, -6, 1, 0])
        self.assertEqual(answers([1, 0]), [1, 0])
        self.assertEqual(answers([2]), [1, -3])
        self.assertEqual(answers([3]), [1, -3])
        self.assertEqual(answers([4, 0]), [1, -3])
        self.assertEqual(answers([5, 0, 0]), [1, -3])
        self.assertEqual(answers([6, 0, 0]), [1, -3])
        self.assertEqual(answers([7, 0, 1]), [1, -3])
        self.assertEqual(answers([8, 1]), [1, -3])
        self.assertEqual(answers([9, 0, 1, 1, 0, 1]), [1, -3])

    def test_fault_is_three_numbers(self):
        self.assertEqual(answers(machine(WRONG)), [3, -6, 2, 33])
        self.assertEqual(answers(sky(WRONG_SKY)), [3, -6, 2, 18])

    def test_only_whole_numbers_are_answered(self):
        told = answers(ASKS + machine(TEXT) + ASKS + sky(SKY) + ASKS + sky("x") + machine(""))
        self.assertIs(type(told), list)
        self.assertEqual({type(number) for number in told}, {int})

    def test_what_is_handed_in_is_as_it_was(self):
        calls = ASKS + machine(TEXT) + sky(SKY) + ASKS + machine(WRONG) + sky(WRONG_SKY) + ASKS
        before = list(calls)
        answers(calls)
        self.assertEqual(calls, before)

    def test_what_is_handed_in_is_not_touched_for_a_while_either(self):
        class Untouched(list):
            def refuse(self, *given):
                raise AssertionError("the list that was handed in is changed")

            append = extend = insert = pop = remove = clear = sort = reverse = refuse
            __setitem__ = __delitem__ = __iadd__ = __imul__ = refuse

        calls = machine(TEXT) + sky(SKY) + ASKS + machine(WRONG)
        self.assertEqual(answers(Untouched(calls)), answers(calls))

    def test_two_runs_answer_alike(self):
        calls = SIZE + machine(TEXT) + RIGHT + sky(SKY) + ASKS
        once = answers(calls)
        self.assertEqual(answers(calls), once)
        self.assertEqual(answers(SIZE), [1, -3])
        self.assertEqual(answers(machine(TEXT) + RIGHT), [1, 0, 1, -3])

    def test_what_is_answered_belongs_to_the_asker(self):
        calls = machine(TEXT) + sky(SKY) + ASKS
        once = answers(calls)
        kept = list(once)
        once.clear()
        self.assertEqual(answers(calls), kept)

    def test_three_hundred_calls(self):
        told = asked(machine(TEXT), *[SIZE] * 299)
        self.assertEqual(told, [[0]] + [[0, 1, 100, 720]] * 299)
        told = asked(machine(TEXT), sky(SKY), *[at(0, steps) for steps in range(298)])
        self.assertEqual([answer[0] for answer in told], [0] * 300)

    def test_longest_texts(self):
        train = "train Abcdefg 01.0000 0 100/100 100/100 100/100 100/100 100/100 100/100\n"
        text = "crank 1 1\n" + train * ((29900 - 10) // len(train))
        self.assertEqual(asked(machine(text)), [[-6, 2, text.index("Abc", 20)]])
        line = "wave a b\n"
        text = line * (29900 // len(line))
        self.assertEqual(asked(sky(text)), [[-6, 3, 7]])
        self.assertEqual(asked(sky("sum " + "a" * 29896)), [[-6, 1, 11]])
        self.assertEqual(asked(machine([10] * 29900)), [[-6, 1, 0]])

    def test_nothing_is_printed_read_or_imported(self):
        calls = machine(TEXT) + sky(SKY) + ASKS
        answers(calls)
        modules = set(sys.modules)
        out = io.StringIO()
        with contextlib.redirect_stdout(out), contextlib.redirect_stderr(out):
            answers(calls)
        self.assertEqual(out.getvalue(), "")
        self.assertEqual(set(sys.modules), modules)

    def test_package_draws_in_its_own_files_alone(self):
        code = "import sys; before = set(sys.modules); import tidemachine.desk; print(*(set(sys.modules) - before))"
        done = subprocess.run([sys.executable, "-c", code], capture_output=True, text=True, check=True)
        for name in done.stdout.split():
            self.assertEqual(name.partition(".")[0], "tidemachine")


class NoMachine(unittest.TestCase):
    def test_before_there_is_a_machine(self):
        for call in (PRINT, SIZE, speed(0), speed(4294967296)):
            self.assertEqual(asked(call), [[-3]])
            self.assertEqual(asked(sky(SKY), call), [[0], [-3]])

    def test_later_calls_answer_it_too(self):
        later = (at(0, 0), pen(0, 0), RIGHT, FIRST, draw(0, 1, 1, 0, 1))
        self.assertEqual(asked(*later, SIZE), [[-3]] * 6)
        self.assertEqual(asked(sky(SKY), *later, SIZE), [[0]] + [[-3]] * 6)

    def test_before_all_other_refusals(self):
        calls = (at(9, FAR), pen(FAR, 257), right(9, 0), first(0), draw(FAR, 0, 0, FAR, 0))
        self.assertEqual(asked(*calls), [[-3]] * 5)
        self.assertEqual(asked(sky(SKY), *calls), [[0]] + [[-3]] * 5)
        self.assertEqual(asked(machine(TEXT), *calls), [[0], [-4], [-1], [-3], [-3], [-1]])

    def test_right_and_first_before_there_is_a_sky(self):
        self.assertEqual(asked(machine(TEXT), RIGHT, FIRST), [[0], [-3], [-3]])
        # An empty sky is one.
        self.assertEqual(asked(machine(TEXT), sky(""), RIGHT, FIRST), [[0], [0], [-9], [-9]])

    def test_refused_machine_leaves_none(self):
        for text in (WRONG, "", "crank 7 60"):
            told = asked(machine(text), PRINT, SIZE, speed(0))
            self.assertEqual(told[0][0], -6)
            self.assertEqual(told[1:], [[-3]] * 3)

    def test_refused_machine_leaves_the_one_before(self):
        before = asked(machine(TEXT), PRINT, SIZE, speed(0), speed(1))[1:]
        for text in (WRONG, "", "crank 7 60", TEXT + "train M3 1 8 1/8\n", "crank 9 9\ntrain"):
            told = asked(machine(TEXT), machine(text), PRINT, SIZE, speed(0), speed(1))
            self.assertEqual(told[1][0], -6)
            self.assertEqual(told[2:], before)

    def test_right_machine_takes_the_place_of_the_one_before(self):
        told = asked(machine(TEXT), machine(OTHER), SIZE, speed(0), PRINT)
        self.assertEqual(told, [[0], [0], [0, 0, 7, 60], [-4], [0, len(OTHER)] + bytes_of(OTHER)])

    def test_sky_leaves_the_machine(self):
        before = asked(machine(TEXT), PRINT, SIZE, speed(0))[1:]
        self.assertEqual(asked(machine(TEXT), sky(SKY), sky(WRONG_SKY), PRINT, SIZE, speed(0))[3:], before)

    def test_refused_sky_leaves_none(self):
        told = asked(machine(TEXT), sky(WRONG_SKY), sky("x"), RIGHT, FIRST)
        self.assertEqual(told, [[0], [-6, 2, 18], [-6, 1, 0], [-3], [-3]])

    def test_refused_sky_leaves_the_one_before(self):
        desk = Desk()
        for text in ("", SKY):
            self.assertEqual(answer_to(desk, 1, sky(text)[1:]), [0])
            kept = desk.sky
            self.assertIsNotNone(kept)
            for wrong in (WRONG_SKY, "x", "angle"):
                self.assertEqual(answer_to(desk, 1, sky(wrong)[1:])[0], -6)
                self.assertIs(desk.sky, kept)

    def test_machine_leaves_the_sky(self):
        desk = Desk()
        answer_to(desk, 1, sky(SKY)[1:])
        kept = desk.sky
        answer_to(desk, 0, machine(TEXT)[1:])
        answer_to(desk, 0, machine(WRONG)[1:])
        self.assertIs(desk.sky, kept)

    def test_changed_between_calls(self):
        other = "crank 10 60\ntrain A 1 1 1/2\ntrain M2 1 0 1/1\n"
        slow = "angle s 0 3\nwave M2 s\nwave A 2 s\n"
        fresh = {}
        for text in (TEXT, other):
            for sky_text in (SKY, slow, ""):
                fresh[text, sky_text] = answers(machine(text) + sky(sky_text) + ASKS)[4:]
        self.assertEqual(len({tuple(told) for told in fresh.values()}), 6)
        calls, wanted = machine(TEXT) + sky(SKY) + ASKS, [1, 0, 1, 0] + fresh[TEXT, SKY]
        for text, sky_text, change in (
            (TEXT, slow, sky(slow)), (other, slow, machine(other)), (other, "", sky("")), (TEXT, "", machine(TEXT)),
            (TEXT, SKY, sky(SKY)), (other, SKY, machine(other)),
        ):
            calls += change + ASKS
            wanted += [1, 0] + fresh[text, sky_text]
        self.assertEqual(answers(calls), wanted)

    def test_refused_texts_leave_all_answers(self):
        before = answers(machine(TEXT) + sky(SKY) + ASKS)[4:]
        for refused in (machine(WRONG), machine(""), machine("crank 10 60"), sky(WRONG_SKY), sky("x"),
                        sky(SKY + "angle")):
            told = answers(machine(TEXT) + sky(SKY) + refused + ASKS)
            self.assertEqual(told[4:6], [3, -6])
            self.assertEqual(told[8:], before)

    def test_machine_and_sky_in_either_order(self):
        self.assertEqual(answers(sky(SKY) + machine(TEXT) + ASKS), answers(machine(TEXT) + sky(SKY) + ASKS))

    def test_asking_leaves_machine_and_sky(self):
        once = answers(machine(TEXT) + sky(SKY) + ASKS)
        self.assertEqual(answers(machine(TEXT) + sky(SKY) + ASKS + ASKS), once + once[4:])

    def test_calls_within_a_row_are_not_calls(self):
        self.assertEqual(asked_last(machine([2, 3, 4, 0]), SIZE), [-3])


if __name__ == "__main__":
    unittest.main()
