"""Both texts judged a second time, straight from the document's words, and many texts held against that.

The grammar is built here as a net of states, as the document writes it. What may go on is then the set of states
that a text's beginning leads to: the fault's place is where that set becomes empty. The other kinds are collected,
all of them, and the least by place and kind is taken.
"""

import random
import re
import unittest
from fractions import Fraction

from tests.helper import SIZE, asked, machine, printed, sky, speed

LETTERS = "ABCDEFGHIJKLMNOPQRSTUVWXYZabcdefghijklmnopqrstuvwxyz"
DIGITS = "0123456789"


class Net:
    """States with steps by signs and free steps; a piece of grammar is a function from a first state to a last one."""

    def __init__(self):
        self.steps = []
        self.free = []

    def state(self):
        self.steps.append({})
        self.free.append([])
        return len(self.steps) - 1

    def closure(self, states):
        found = set(states)
        waiting = list(states)
        while waiting:
            for state in self.free[waiting.pop()]:
                if state not in found:
                    found.add(state)
                    waiting.append(state)
        return frozenset(found)


def one_of(signs):
    def build(net, first):
        last = net.state()
        for sign in signs:
            net.steps[first].setdefault(ord(sign), []).append(last)
        return last
    return build


def word(signs):
    return row(*[one_of(sign) for sign in signs])


def row(*pieces):
    def build(net, first):
        for piece in pieces:
            first = piece(net, first)
        return first
    return build


def either(*pieces):
    def build(net, first):
        last = net.state()
        for piece in pieces:
            begin = net.state()
            net.free[first].append(begin)
            net.free[piece(net, begin)].append(last)
        return last
    return build


def maybe(piece):
    return either(piece, row())


def repeated(piece, least, most):
    return row(*[piece] * least, *[maybe_rest(piece, most - least)])


def maybe_rest(piece, most):
    """Up to most of them, the next only behind the one before."""
    def build(net, first):
        last = net.state()
        net.free[first].append(last)
        for _ in range(most):
            first = piece(net, first)
            net.free[first].append(last)
        return last
    return build


def any_times(piece):
    def build(net, first):
        again = net.state()
        net.free[first].append(again)
        net.free[piece(net, again)].append(again)
        return again
    return build


NAME = row(one_of(LETTERS), repeated(one_of(LETTERS + DIGITS), 0, 6))
NUMBER = row(maybe(word("-")), repeated(one_of(DIGITS), 1, 3), maybe(row(word("."), repeated(one_of(DIGITS), 1, 12))))
COUNT = either(*[word(str(count)) for count in range(1, 16)])
TERM = row(maybe(row(COUNT, word(" "))), NAME)
SUM = row(maybe(word("- ")), TERM, repeated(row(either(word(" + "), word(" - ")), TERM), 0, 7))
ANGLE_LINE = row(word("angle "), NAME, word(" "), NUMBER, word(" "), NUMBER)
WAVE_LINE = row(
    word("wave "), NAME, word(" "), SUM, maybe(row(word(" turn "), either(word("90"), word("180"), word("270")))),
    repeated(row(word(" factor "), NUMBER, word(" "), SUM), 0, 8),
    repeated(row(word(" shift "), NUMBER, word(" "), SUM), 0, 8),
)
SUM_LINE = row(word("sum "), NAME, word(" "), SUM)
SKY = any_times(row(either(ANGLE_LINE, WAVE_LINE, SUM_LINE), word("\n")))


def from_one(digits):
    return row(one_of("123456789"), repeated(one_of(DIGITS), 0, digits - 1))


TEETH = from_one(3)
MINUTES = from_one(5)
START = either(word("0"), from_one(6))
SIZE_WORD = row(repeated(one_of(DIGITS), 1, 2), maybe(row(word("."), repeated(one_of(DIGITS), 1, 4))))
PAIR = row(word(" "), TEETH, word("/"), TEETH)
TRAIN = row(word("train "), NAME, word(" "), SIZE_WORD, word(" "), START, repeated(PAIR, 1, 6), word("\n"))
MACHINE = row(word("crank "), TEETH, word(" "), MINUTES, word("\n"), any_times(TRAIN))


class Grammar:
    def __init__(self, piece):
        self.net = Net()
        first = self.net.state()
        self.last = piece(self.net, first)
        self.first = self.net.closure([first])
        self.known = {}

    def step(self, states, byte):
        if (states, byte) not in self.known:
            reached = [after for state in states for after in self.net.steps[state].get(byte, [])]
            self.known[(states, byte)] = self.net.closure(reached)
        return self.known[(states, byte)]

    def fault(self, text):
        """The place of the grammar's fault, None if there's none."""
        states = self.first
        for place, byte in enumerate(text):
            states = self.step(states, byte)
            if not states:
                return place
        return None if self.last in states else len(text)


SKY_GRAMMAR = Grammar(SKY)
MACHINE_GRAMMAR = Grammar(MACHINE)


def lines_of(text):
    place = 0
    for line in text.splitlines(keepends=True):
        yield place, line[:-1]
        place += len(line)


def machine_faults(text):
    names = set()
    for number, (place, line) in enumerate(lines_of(text)):
        if number == 0:
            continue
        words = line.split(" ")
        if words[1] in names:
            yield place + 6, 2
        if number >= 65:
            yield place + 6, 3
        if int(words[3]) >= int(words[-1].split("/")[1]):
            yield place + len(" ".join(words[:3])) + 1, 4
        names.add(words[1])


def terms_of(text, place):
    """Each name in a SUM with its place and its COUNT."""
    for found in re.finditer(r"(?:(\d+) )?([A-Za-z][A-Za-z0-9]*)", text):
        yield place + found.start(2), found.group(2), int(found.group(1) or 1)


def wave_parts(rest):
    """A wave's SUM, factors and shifts: each with its word, its NUMBER, its SUM and the place of this."""
    # A NUMBER never stands behind a name, so these words are told from names by what follows them.
    ends = [found.start() for found in re.finditer(r" (?:turn \d|(?:factor|shift) -?\d+(?:\.\d+)? )", rest)]
    yield "", "0", rest[:ends[0]] if ends else rest, 0
    for begin, end in zip(ends, ends[1:] + [len(rest)]):
        what, number, *_ = rest[begin + 1:end].split(" ")
        if what != "turn":
            skipped = begin + 1 + len(what) + 1 + len(number) + 1
            yield what, number, rest[skipped:end], skipped


def sky_faults(text):
    sorts = {}
    angles = others = 0
    for place, line in lines_of(text):
        sort, name, rest = line.split(" ", 2)
        at_name = place + len(sort) + 1
        at_rest = at_name + len(name) + 1
        angles += sort == "angle"
        others += sort != "angle"
        if name in sorts:
            yield at_name, 2
        if (sort == "angle" and angles == 17) or (sort != "angle" and others == 129):
            yield at_name, 4
        sums = []
        if sort == "sum":
            sums = [("", "0", rest, 0)]
            if sum(count for _, _, count in terms_of(rest, 0)) > 12:
                yield at_name, 5
        if sort == "wave":
            sums = list(wave_parts(rest))
            if sum(abs(Fraction(number)) for what, number, _, _ in sums if what == "factor") >= 1:
                yield at_name, 5
        for _, _, part, begin in sums:
            for at_term, term, _ in terms_of(part, at_rest + begin):
                if sorts.get(term) != ("wave" if sort == "sum" else "angle"):
                    yield at_term, 3
        sorts.setdefault(name, sort)


def wanted(grammar, faults, row_of_bytes):
    place = grammar.fault(row_of_bytes)
    if place is not None:
        return [-6, 1, place]
    found = sorted(faults(bytes(row_of_bytes).decode("ascii")))
    return [-6, found[0][1], found[0][0]] if found else [0]


NAMES = ["a", "b", "M2", "turn", "factor", "shift", "sum", "wave", "Abcdef7", "K1", "S", "x9"]


class Maker:
    """Makes texts that mostly are right, with all that the grammar allows."""

    def __init__(self, seed):
        self.draw = random.Random(seed)

    def digits(self, least, most):
        return "".join(self.draw.choice(DIGITS) for _ in range(self.draw.randint(least, most)))

    def number(self, small=False):
        whole = self.draw.choice(["0", "00", "000"]) if small else self.digits(1, 3)
        part = self.digits(1, 12)
        if small and self.draw.random() < 0.8:
            part = "0" + part[:11]
        return self.draw.choice(["", "-"]) + whole + (f".{part}" if self.draw.random() < 0.7 else "")

    def name(self):
        if self.draw.random() < 0.4:
            return self.draw.choice(NAMES)
        behind = self.draw.choices(LETTERS + DIGITS, k=self.draw.randint(0, 6))
        return self.draw.choice(LETTERS) + "".join(behind)

    def sum(self, known, most=8, counts=15):
        text = self.draw.choice(["", "", "- "])
        for number in range(self.draw.randint(1, most)):
            if number > 0:
                text += self.draw.choice([" + ", " - "])
            if self.draw.random() < 0.4:
                text += str(self.draw.randint(1, counts)) + " "
            text += self.draw.choice(known) if known and self.draw.random() < 0.99 else self.name()
        return text

    def sky(self):
        angles, waves, lines = [], [], []
        for number in range(self.draw.randint(0, 12)):
            name = self.name()
            sort = self.draw.choice(["angle", "wave", "sum"]) if number > 1 else "angle"
            if sort == "angle":
                lines.append(f"angle {name} {self.number()} {self.number()}")
                angles.append(name)
            elif sort == "wave":
                line = f"wave {name} {self.sum(angles)}" + self.draw.choice(["", " turn 90", " turn 180", " turn 270"])
                for _ in range(self.draw.choice([0, 0, 1, 2, 8])):
                    line += f" factor {self.number(True)} {self.sum(angles, 3)}"
                for _ in range(self.draw.choice([0, 0, 1, 2, 8])):
                    line += f" shift {self.number()} {self.sum(angles, 3)}"
                lines.append(line)
                waves.append(name)
            else:
                lines.append(f"sum {name} {self.sum(waves, 4, 4)}")
        return "".join([line + "\n" for line in lines])

    def teeth(self):
        return self.draw.choice([1, 2, 9, 10, 99, 100, 999, self.draw.randint(1, 999)])

    def machine(self):
        text = f"crank {self.teeth()} {self.draw.choice([1, 60, 720, 99999])}\n"
        for _ in range(self.draw.choice([0, 1, 2, 3, 5, 40])):
            pairs = [(self.teeth(), self.teeth()) for _ in range(self.draw.randint(1, 6))]
            size = self.digits(1, 2) + (f".{self.digits(1, 4)}" if self.draw.random() < 0.7 else "")
            start = self.draw.randint(0, pairs[-1][1] - (0 if self.draw.random() < 0.02 else 1))
            text += f"train {self.name()} {size} {start} " + " ".join([f"{one}/{other}" for one, other in pairs]) + "\n"
        return text

    def spoilt(self, text):
        """The text with a few bytes put in, taken out, changed or doubled."""
        changed = list(text.encode())
        for _ in range(self.draw.randint(1, 2)):
            place = self.draw.randint(0, len(changed))
            byte = self.draw.choice([*b"\n +-./015679ast", self.draw.randint(0, 255)])
            how = self.draw.randint(0, 4)
            if how == 0:
                changed.insert(place, byte)
            elif how == 1:
                changed[place:place + 1] = [byte]
            elif how == 2:
                del changed[place:place + self.draw.choice([1, 1, 2, 5])]
            elif how == 3:
                changed[place:place] = changed[place:place + self.draw.randint(1, 8)]
            else:
                changed = changed[:place]
        return changed


class AgainstTheDocument(unittest.TestCase):
    def test_the_net_itself(self):
        self.assertIsNone(MACHINE_GRAMMAR.fault(b"crank 1 1\n"))
        self.assertEqual(MACHINE_GRAMMAR.fault(b"crank 1000 1\n"), 9)
        self.assertIsNone(SKY_GRAMMAR.fault(b""))
        self.assertEqual(SKY_GRAMMAR.fault(b"wave w a turn 91\n"), 15)

    def test_machines(self):
        kinds = self.hold(Maker(1), Maker.machine, machine, MACHINE_GRAMMAR, machine_faults, 1500)
        self.assertEqual(kinds, {0, 1, 2, 4})

    def test_skies(self):
        kinds = self.hold(Maker(2), Maker.sky, sky, SKY_GRAMMAR, sky_faults, 1500)
        self.assertEqual(kinds, {0, 1, 2, 3, 5})

    def hold(self, maker, make, call, grammar, faults, times):
        """Holds texts against the document; gives back which kinds came, 0 for a right text."""
        kinds = set()
        for _ in range(times):
            text = make(maker)
            for row_of_bytes in (list(text.encode()), maker.spoilt(text)):
                answer = asked(call(bytes(row_of_bytes)))[0]
                self.assertEqual(answer, wanted(grammar, faults, row_of_bytes), bytes(row_of_bytes))
                kinds.add(answer[1] if answer[0] == -6 else 0)
        return kinds

    def test_every_byte_at_every_place(self):
        text = b"crank 9 99\ntrain Abc 1.5 0 1/2 33/4\n"
        self.put_everywhere(text, machine, MACHINE_GRAMMAR, machine_faults)
        text = b"angle a -1 0.5\nwave turn - 2 a + a turn 90 factor 0.5 1 a shift -2 a\nsum S 2 turn\n"
        self.put_everywhere(text, sky, SKY_GRAMMAR, sky_faults)

    def put_everywhere(self, text, call, grammar, faults):
        for place in range(len(text) + 1):
            for byte in range(256):
                for skipped in (0, 1):
                    spoilt = list(text[:place]) + [byte] + list(text[place + skipped:])
                    answer = asked(call(bytes(spoilt)))[0]
                    self.assertEqual(answer, wanted(grammar, faults, spoilt), bytes(spoilt))

    def test_printed_machines(self):
        maker = Maker(3)
        seen = 0
        for _ in range(400):
            text = maker.machine()
            if asked(machine(text)) == [[0]]:
                once = printed(text)
                asks = (SIZE, speed(0), speed(1), speed(2))
                self.assertEqual(printed(once), once)
                self.assertEqual(asked(machine(once), *asks), asked(machine(text), *asks))
                self.assertEqual([line.split(" ")[3:] for line in once.splitlines()[1:]],
                                 [line.split(" ")[3:] for line in text.splitlines()[1:]])
                seen += 1
        self.assertGreater(seen, 100)


if __name__ == "__main__":
    unittest.main()
