"""Many lists of calls held against answers that are worked out a second time, straight from the document's words.

Machines and skies are drawn here as plain tuples and written as texts; the answers are worked out from the tuples with
exact fractions and the tests' own cosine.
"""

import random
import unittest
from fractions import Fraction
from math import ceil, floor, prod

from tests.helper import (
    FAR, GREATEST, LEAST, SIZE, asked, at, draw, first, machine, pen, right, sky, speed, true_ray_cosine,
)

NAMES = ["M2", "S2", "K1", "turn", "Abcdef7", "x"]


class Drawn:
    """Draws machines, skies and calls."""

    def __init__(self, seed):
        self.random = random.Random(seed)

    def one_of(self, *choices):
        return self.random.choice(choices)

    def teeth(self):
        return self.one_of(1, 2, 12, 60, 999, self.random.randint(1, 999), self.random.randint(1, 40))

    def machine(self):
        trains = []
        for name in self.random.sample(NAMES, self.one_of(0, 1, 1, 2, 3, 6)):
            pairs = [(self.teeth(), self.teeth()) for _ in range(self.one_of(1, 1, 2, 3, 6))]
            size = self.one_of(0, 1, 3, 5000, 999999, self.random.randrange(10 ** 6))
            trains.append((name, size, self.random.randrange(pairs[-1][1]), pairs))
        return (self.teeth(), self.one_of(1, 60, 720, 99999, self.random.randint(1, 99999)), trains)

    def rate(self):
        digits = self.one_of(0, 0, 1, 4, 12)
        return Fraction(self.random.randint(-999, 999) * 10 ** digits // self.one_of(1, 7, 360), 10 ** digits)

    def terms(self, names, most, counts):
        return [(self.one_of(1, -1) * self.random.randint(1, counts), self.random.choice(names))
                for _ in range(self.random.randint(1, most))]

    def sky(self):
        """Angles, waves and sums: each a list of a name and a rate or terms."""
        angles = [(name, self.rate()) for name in ("a", "b", "c")]
        if self.random.random() < 0.1:
            angles.append((NAMES[0], self.rate()))
        names = [name for name in NAMES if name not in dict(angles)]
        self.random.shuffle(names)
        taken = names[:self.one_of(1, 3, 6, 6, 6)]
        waves, sums = [], []
        for place, name in enumerate(taken):
            if place > 0 and self.random.random() < 0.4:
                sums.append((name, self.terms([wave for wave, _ in waves], 3, 4)))
            else:
                waves.append((name, self.terms([angle for angle, _ in angles], 8, 15)))
        return (angles, waves, sums)

    def part(self):
        return self.one_of(1, 2, 360, 1000000, 0, 1000001, self.random.randint(1, 1000000))

    def steps(self):
        return self.one_of(0, 1, -1, LEAST, GREATEST, LEAST - 1, GREATEST + 1, FAR, -FAR,
                           self.random.randint(-1000, 1000), self.random.randint(LEAST, GREATEST))

    def call(self):
        number = self.one_of(0, 0, 0, 1, 2, 5, 6, FAR)
        call = self.one_of("speed", "at", "at", "pen", "right", "right", "right", "first", "first", "draw")
        if call == "speed":
            return speed(number)
        if call == "at":
            return at(number, self.steps())
        if call == "pen":
            return pen(self.steps(), self.one_of(0, 1, 2, 5, 5, 257))
        if call == "right":
            return right(number, self.part())
        if call == "first":
            return first(self.part())
        low = self.one_of(0, -1, self.random.randint(-1000000, 10), LEAST, LEAST - 1, GREATEST + 1)
        scale = self.one_of(1, 1, 1000, 40000, GREATEST, 0, GREATEST + 1)
        return draw(self.steps(), self.one_of(1, 3, 8, 9, 0, 65), self.one_of(1, 5, 64, 0, 65), low, scale)


def machine_text(told):
    teeth, minutes, trains = told
    text = f"crank {teeth} {minutes}\n"
    for name, size, start, pairs in trains:
        written = " ".join([f"{one}/{other}" for one, other in pairs])
        text += f"train {name} {size // 10000}.{size % 10000:04} {start} {written}\n"
    return text


def number_text(number):
    size = abs(number)
    part = floor(size % 1 * 10 ** 12)
    return ("-" if number < 0 else "") + f"{floor(size)}.{part:012}"


def terms_text(terms):
    text = ""
    for place, (times, name) in enumerate(terms):
        if place > 0:
            text += " - " if times < 0 else " + "
        elif times < 0:
            text += "- "
        text += name if abs(times) == 1 else f"{abs(times)} {name}"
    return text


def sky_text(told):
    angles, waves, sums = told
    lines = [f"angle {name} 12.5 {number_text(rate)}\n" for name, rate in angles]
    lines += [f"wave {name} {terms_text(terms)}\n" for name, terms in waves]
    lines += [f"sum {name} {terms_text(terms)}\n" for name, terms in sums]
    return "".join(lines)


def is_sky_right(told):
    return all([sum([abs(times) for times, _ in terms]) <= 12 for _, terms in told[2]])


class Answers:
    """What the document's words come to for one machine and one sky."""

    def __init__(self, told, sky_told):
        self.teeth, self.minutes, self.trains = told
        angles, waves, sums = sky_told
        rates = dict(angles)
        self.waves = {name: sum([times * rates[term] for times, term in terms]) for name, terms in waves}
        only = dict(self.waves)
        self.waves.update({name: sum([times * only[term] for times, term in terms]) for name, terms in sums})

    def turns(self, number):
        pairs = self.trains[number][3]
        return Fraction(prod([one for one, _ in pairs]), prod([other for _, other in pairs]))

    def stand(self, number, steps):
        _, _, start, pairs = self.trains[number]
        return (Fraction(start, pairs[-1][1]) + Fraction(steps, self.teeth) * self.turns(number)) % 1

    def height(self, steps):
        heights = [Fraction(train[1] * true_ray_cosine(floor(self.stand(number, steps) * 2 ** 32)), 2 ** 30)
                   for number, train in enumerate(self.trains)]
        return floor(sum(heights) + Fraction(1, 2))

    def speed(self, number):
        if number >= len(self.trains):
            return [-4]
        told = self.turns(number) / self.minutes
        return [0, told.numerator, told.denominator]

    def at(self, number, steps):
        if number >= len(self.trains):
            return [-4]
        if not LEAST <= steps <= GREATEST:
            return [-1]
        part = self.stand(number, steps)
        return [0, part.numerator, part.denominator, floor(part * 2 ** 32)]

    def pen(self, steps, count):
        if not LEAST <= steps <= GREATEST or count > 256:
            return [-1]
        return [0, count] + [self.height(steps + more) for more in range(count)]

    def right(self, number, part):
        if number >= len(self.trains):
            return [-4]
        name = self.trains[number][0]
        if name not in self.waves:
            return [-9]
        if not 1 <= part <= 1000000:
            return [-1]
        in_a_minute = self.turns(number) / self.minutes - self.waves[name] / 360 / 60
        in_a_step = abs(in_a_minute * Fraction(self.minutes, self.teeth))
        if in_a_step == 0:
            return [0]
        return [1, ceil(Fraction(1, part) / in_a_step)]

    def first(self, part):
        if any([train[0] not in self.waves for train in self.trains]):
            return [-9]
        if not 1 <= part <= 1000000:
            return [-1]
        told = [(self.right(number, part), number) for number in range(len(self.trains))]
        found = [(answer[1], number) for answer, number in told if answer[0] == 1]
        return [1, min(found)[1], min(found)[0]] if found else [0]

    def draw(self, steps, wide, high, low, scale):
        if not (LEAST <= steps <= GREATEST and LEAST <= low <= GREATEST and 1 <= wide <= 64 and 1 <= high <= 64
                and 1 <= scale <= GREATEST):
            return [-1]
        marked = [floor(Fraction(self.height(steps + column) - low, scale)) for column in range(wide)]
        told = []
        for row in reversed(range(high)):
            bits = "".join(["1" if mark == row else "0" for mark in marked])
            bits += "0" * (-wide % 8)
            told += [int(bits[place:place + 8], 2) for place in range(0, len(bits), 8)]
        return [0, len(told)] + told

    def wanted(self, call):
        return {4: self.speed, 5: self.at, 6: self.pen, 7: self.right, 8: self.first, 9: self.draw}[call[0]](*call[1:])


class AgainstTheDocument(unittest.TestCase):
    def test_many_lists_of_calls(self):
        drawn = Drawn(7)
        seen = {}
        for _ in range(400):
            told, sky_told = drawn.machine(), drawn.sky()
            while not is_sky_right(sky_told):
                sky_told = drawn.sky()
            known = Answers(told, sky_told)
            calls = [drawn.call() for _ in range(8)]
            answered = asked(machine(machine_text(told)), sky(sky_text(sky_told)), *calls, SIZE)
            self.assertEqual(answered[:2], [[0], [0]], (machine_text(told), sky_text(sky_told)))
            self.assertEqual(answered[-1], [0, len(told[2]), told[0], told[1]])
            for call, answer in zip(calls, answered[2:-1], strict=True):
                self.assertEqual(answer, known.wanted(call), (machine_text(told), sky_text(sky_told), call))
                seen.setdefault(call[0], set()).add(answer[0])
        # Each call came with its answers; that right is 0 is for the test below.
        self.assertEqual(seen, {4: {0, -4}, 5: {0, -4, -1}, 6: {0, -1}, 7: {1, -4, -9, -1}, 8: {0, 1, -9, -1},
                                9: {0, -1}})

    def test_as_fast_as_the_wave_beside_others(self):
        drawn = Drawn(8)
        zeros = 0
        for _ in range(100):
            trains = [(name, 5, 0, [(drawn.one_of(1, 2, 3), drawn.one_of(1, 2, 4))]) for name in NAMES[:3]]
            told = (drawn.one_of(1, 10, 12), 60, trains)
            angles = [("a", Fraction(drawn.one_of(90, 180, 270, 360, 720)))]
            waves = [(name, [(drawn.one_of(1, 1, 2), "a")]) for name in NAMES[:3]]
            known = Answers(told, (angles, waves, []))
            calls = [first(part) for part in (1, 3, 5)] + [right(number, 5) for number in range(3)]
            answered = asked(machine(machine_text(told)), sky(sky_text((angles, waves, []))), *calls)
            self.assertEqual(answered[2:], [known.wanted(call) for call in calls])
            zeros += answered[5:].count([0])
        self.assertGreater(zeros, 20)


if __name__ == "__main__":
    unittest.main()
