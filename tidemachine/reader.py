"""Goes through a text byte by byte and refuses it at the first place where its grammar doesn't go on.

Each take_ method goes no further than the grammar does, so the place at which it stops is the fault's place.
"""

from tidemachine.fault import Fault, GRAMMAR

# No byte is 256, so what is asked of the byte behind the last one is never so.
END = 256

NAME_SIGNS = 7


def is_digit(byte):
    return ord("0") <= byte <= ord("9")


def is_letter(byte):
    return ord("A") <= byte <= ord("Z") or ord("a") <= byte <= ord("z")


# The whole number that a list of decimal digits writes.
def value_of(digits):
    value = 0
    for digit in digits:
        value = value * 10 + digit
    return value


# A text and the place up to which it has been read.
class Reader:
    def __init__(self, text):
        self.text = text
        self.place = 0

    # The byte at the place, or END.
    def look(self):
        if self.place < len(self.text):
            return self.text[self.place]
        return END

    # Whether this sign stands at the place.
    def stands(self, sign):
        return self.look() == ord(sign)

    def at_end(self):
        return self.look() == END

    def take_word(self, word):
        for sign in word:
            if not self.stands(sign):
                raise Fault(GRAMMAR, self.place)
            self.place += 1

    # Takes the one of the words that stands here and gives it back; no two of them begin alike.
    def take_choice(self, words):
        for word in words:
            if self.stands(word[0]):
                self.take_word(word)
                return word
        raise Fault(GRAMMAR, self.place)

    # Takes either a line's end, and gives back an empty text, or a blank and one of the words, and gives back that one.
    def take_end_or(self, words):
        # Without a word that may follow, the blank itself is already the fault.
        if not words or self.stands("\n"):
            self.take_word("\n")
            return ""
        self.take_word(" ")
        return self.take_choice(words)

    # Takes a NAME and gives back its bytes as a tuple.
    def take_name(self):
        first = self.place
        if not is_letter(self.look()):
            raise Fault(GRAMMAR, first)
        while self.place < first + NAME_SIGNS and (is_letter(self.look()) or is_digit(self.look())):
            self.place += 1
        return tuple(self.text[first:self.place])

    # Takes one digit at least and most at most, and gives them back as a list.
    def take_digits(self, most):
        digits = []
        while len(digits) < most and is_digit(self.look()):
            digits.append(self.look() - ord("0"))
            self.place += 1
        if not digits:
            raise Fault(GRAMMAR, self.place)
        return digits

    # Takes a whole number above 0, of most digits at most and with no 0 in front.
    def take_whole(self, most):
        if self.stands("0"):
            raise Fault(GRAMMAR, self.place)
        return value_of(self.take_digits(most))

    # Takes most digits at most and, if a point follows, behind digits at most; gives back 10 ** behind times it.
    def take_decimal(self, most, behind):
        digits = self.take_digits(most)
        part = []
        if self.stands("."):
            self.take_word(".")
            part = self.take_digits(behind)
        while len(part) < behind:
            part.append(0)
        return value_of(digits + part)
