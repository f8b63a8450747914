"""How the tests write calls and read answers."""

import unittest

from tidemachine.desk import answers

PRINT = [2]
SIZE = [3]

LEAST = -2 ** 31
GREATEST = 2 ** 31 - 1
# The greatest number that may be handed in.
FAR = 4294967296


def bytes_of(text):
    """A text's bytes, of str or bytes."""
    return list(text.encode("latin-1") if isinstance(text, str) else text)


def machine(text):
    row = bytes_of(text)
    return [0, len(row)] + row


def sky(text):
    row = bytes_of(text)
    return [1, len(row)] + row


def speed(number):
    return [4, number]


def at(number, steps):
    return [5, number, steps]


def pen(steps, count):
    return [6, steps, count]


def right(number, part):
    return [7, number, part]


def first(part):
    return [8, part]


def draw(steps, wide, high, low, scale):
    return [9, steps, wide, high, low, scale]


def asked(*calls):
    """The answers to the calls on one new object, a list each, without their counts."""
    told = answers([number for call in calls for number in call])
    split = []
    place = 0
    while place < len(told):
        end = place + 1 + told[place]
        if end > len(told):
            raise AssertionError("a count goes beyond the answers' end")
        split.append(told[place + 1:end])
        place = end
    if len(split) != len(calls):
        raise AssertionError("not one answer for each call")
    return split


def asked_last(*calls):
    return asked(*calls)[-1]


def pens(text, steps, count):
    """Where the pen of a right machine's text stands, as a list."""
    answer = asked_last(machine(text), pen(steps, count))
    if answer[:2] != [0, count] or len(answer) != count + 2:
        raise AssertionError(f"not a list of {count} pens: {answer}")
    return answer[2:]


def printed(text):
    """The printed text of a right machine's text, as str."""
    answer = asked_last(machine(text), PRINT)
    if answer[0] != 0 or answer[1] != len(answer) - 2:
        raise AssertionError(f"not a printed text: {answer}")
    return bytes(answer[2:]).decode("latin-1")


# The tests' own cosine: whole numbers, this many times what they stand for, and no quarters.
FINE = 2 ** 320


def arc_tangent_of_one_over(number):
    total, power, odd = 0, FINE // number, 1
    while power > 0:
        total += power // odd if odd % 4 == 1 else -(power // odd)
        power //= number * number
        odd += 2
    return total


# Machin's way: a quarter of pi is 4 times the arc tangent of 1 / 5 less that of 1 / 239.
TWO_PI = 8 * (4 * arc_tangent_of_one_over(5) - arc_tangent_of_one_over(239))


def true_cosine(above, below):
    """FINE times the cosine of above / below of a turn, right but for its last 40 bits at most."""
    arc = TWO_PI * above // below
    square = arc * arc // FINE
    total, number = 0, 0
    term = FINE
    while term > 0:
        total += term if number % 4 == 0 else -term
        number += 2
        term = term * square // FINE // (number * (number - 1))
    return total


def true_ray_cosine(angle):
    """The whole number nearest to 2^30 times the angle's cosine."""
    return (true_cosine(angle, 2 ** 32) * 2 ** 30 + FINE // 2) // FINE


class TextCase(unittest.TestCase):
    """Tests of how texts are judged; a class under it says by which call."""

    def judged(self, text):
        return asked(self.call(text))[0]

    def call(self, text):
        raise NotImplementedError

    def expect_right(self, *texts):
        for text in texts:
            with self.subTest(text=text):
                self.assertEqual(self.judged(text), [0])

    def expect(self, text, kind, before):
        """A fault of this kind behind the text's beginning that is written twice."""
        self.assertTrue(text.startswith(before))
        with self.subTest(text=text):
            self.assertEqual(self.judged(text), [-6, kind, len(before)])

    def expect_fault(self, text, before):
        self.expect(text, 1, before)
