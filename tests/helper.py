"""How the tests write calls and read answers."""

import unittest

from tidemachine.desk import answers

PRINT = [2]
SIZE = [3]


def bytes_of(text):
    """A text's bytes, of str or bytes."""
    return list(text.encode("latin-1") if isinstance(text, str) else text)


def machine(text):
    row = bytes_of(text)
    return [0, len(row)] + row


def sky(text):
    row = bytes_of(text)
    return [1, len(row)] + row


def speed(number):
    return [4, number]


def asked(*calls):
    """The answers to the calls on one new object, a list each, without their counts."""
    told = answers([number for call in calls for number in call])
    split = []
    place = 0
    while place < len(told):
        end = place + 1 + told[place]
        if end > len(told):
            raise AssertionError("a count goes beyond the answers' end")
        split.append(told[place + 1:end])
        place = end
    if len(split) != len(calls):
        raise AssertionError("not one answer for each call")
    return split


def asked_last(*calls):
    return asked(*calls)[-1]


def printed(text):
    """The printed text of a right machine's text, as str."""
    answer = asked_last(machine(text), PRINT)
    if answer[0] != 0 or answer[1] != len(answer) - 2:
        raise AssertionError(f"not a printed text: {answer}")
    return bytes(answer[2:]).decode("latin-1")


class TextCase(unittest.TestCase):
    """Tests of how texts are judged; a class under it says by which call."""

    def judged(self, text):
        return asked(self.call(text))[0]

    def call(self, text):
        raise NotImplementedError

    def expect_right(self, *texts):
        for text in texts:
            with self.subTest(text=text):
                self.assertEqual(self.judged(text), [0])

    def expect(self, text, kind, before):
        """A fault of this kind behind the text's beginning that is written twice."""
        self.assertTrue(text.startswith(before))
        with self.subTest(text=text):
            self.assertEqual(self.judged(text), [-6, kind, len(before)])

    def expect_fault(self, text, before):
        self.expect(text, 1, before)
