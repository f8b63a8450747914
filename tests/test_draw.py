"""`draw n wide high low scale`, and E3 as far as it speaks of the curve."""

import unittest

from tests.helper import FAR, GREATEST, LEAST, asked, asked_last, draw, machine, pen, pens

# The pen goes 10, 0, -10, 0 and round again.
ROUND = "crank 4 60\ntrain A 0.0010 0 1/1\n"
SOME = "crank 40 60\ntrain A 0.0100 0 1/1\ntrain B 0.0037 2 7/5\ntrain C 0.0020 0 31/9 2/3\n"


def still(height):
    """A machine whose pen stands at this height at every step."""
    size = abs(height)
    return f"crank 1 60\ntrain A {size // 10000}.{size % 10000:04} {0 if height >= 0 else 1} 2/2\n"


def rows(text, steps, wide, high, low, scale):
    """The curve as lines of signs, the highest row first; what isn't a column has to be 0."""
    answer = asked_last(machine(text), draw(steps, wide, high, low, scale))
    width = (wide + 7) // 8
    if answer[:2] != [0, width * high] or len(answer) != 2 + width * high:
        raise AssertionError(f"not {high} rows of {width} bytes: {answer}")
    lines = []
    for row in range(high):
        bits = "".join([f"{byte:08b}" for byte in answer[2 + row * width:2 + (row + 1) * width]])
        if "1" in bits[wide:]:
            raise AssertionError(f"an unused bit is set: {bits}")
        lines.append(bits[:wide].replace("0", ".").replace("1", "#"))
    return lines


class Curve(unittest.TestCase):
    def test_bytes(self):
        self.assertEqual(asked_last(machine(ROUND), draw(0, 8, 3, -10, 10)), [0, 3, 0x88, 0x55, 0x22])
        self.assertEqual(asked_last(machine(ROUND), draw(0, 10, 3, -10, 10)),
                         [0, 6, 0x88, 0x80, 0x55, 0x40, 0x22, 0x00])
        self.assertEqual(asked_last(machine(ROUND), draw(0, 1, 1, 10, 1)), [0, 1, 0x80])
        self.assertEqual(asked_last(machine(ROUND), draw(1, 1, 1, 10, 1)), [0, 1, 0])

    def test_rows_from_the_highest_down(self):
        self.assertEqual(rows(ROUND, 0, 9, 3, -10, 10), ["#...#...#", ".#.#.#.#.", "..#...#.."])
        self.assertEqual(rows(ROUND, 0, 4, 5, -20, 10), ["....", "#...", ".#.#", "..#.", "...."])

    def test_steps(self):
        self.assertEqual(rows(ROUND, 1, 5, 3, -10, 10), ["...#.", "#.#.#", ".#..."])
        self.assertEqual(rows(ROUND, -2, 5, 3, -10, 10), ["..#..", ".#.#.", "#...#"])
        self.assertEqual(rows(ROUND, LEAST, 5, 3, -10, 10), ["#...#", ".#.#.", "..#.."])
        # The columns behind the first go beyond the greatest that may be asked.
        self.assertEqual(rows(ROUND, GREATEST, 5, 3, -10, 10), [".#...", "#.#.#", "...#."])

    def test_widths(self):
        for wide in (1, 2, 7, 8, 9, 15, 16, 17, 63, 64):
            for high in (1, 2, 64):
                self.assertEqual(rows(ROUND, 0, wide, high, 10, 1), ["." * wide] * (high - 1) + [("#..." * 16)[:wide]])
            # The last column.
            self.assertEqual(rows(ROUND, 1 - wide, wide, 1, 10, 1)[0][-1], "#")

    def test_every_column_is_its_own_bit(self):
        # A turn in 64 steps: the pen is at its highest in one column alone.
        text = "crank 64 60\ntrain A 9 0 1/1\n"
        for column in range(64):
            told = asked_last(machine(text), draw(-column, 64, 1, 90000, 1))
            wanted = [0] * 8
            wanted[column // 8] = 128 >> column % 8
            self.assertEqual(told, [0, 8] + wanted)

    def test_heights(self):
        for high in (1, 2, 63, 64):
            for row in (0, 1, high - 1):
                if row < high:
                    lines = ["."] * high
                    lines[high - 1 - row] = "#"
                    self.assertEqual(rows(still(100), 0, 1, high, 100 - row, 1), lines)

    def test_edges_of_the_rows(self):
        for height in (100, 0, -100):
            for scale in (1, 2, 10):
                for high in (1, 3):
                    for above_low, row in ((-1, None), (0, 0), (scale - 1, 0), (scale, 1), (2 * scale, 2),
                                           (3 * scale - 1, 2), (3 * scale, None), (-scale, None), (-scale - 1, None)):
                        wanted = ["."] * high
                        if row is not None and row < high:
                            wanted[high - 1 - row] = "#"
                        self.assertEqual(rows(still(height), 0, 1, high, height - above_low, scale), wanted)

    def test_below_the_lowest_row_by_less_than_a_scale(self):
        self.assertEqual(rows(still(5), 0, 1, 2, 6, 2), [".", "."])
        self.assertEqual(rows(still(-5), 0, 1, 2, -4, 1000), [".", "."])
        self.assertEqual(rows(still(5), 0, 1, 1, 6, GREATEST), ["."])

    def test_low_below_0(self):
        self.assertEqual(rows(still(0), 0, 1, 3, -2, 1), ["#", ".", "."])
        self.assertEqual(rows(still(-7), 0, 1, 3, -10, 3), [".", "#", "."])
        self.assertEqual(rows(still(-8), 0, 1, 3, -10, 3), [".", ".", "#"])

    def test_greatest_scale_and_farthest_low(self):
        self.assertEqual(rows(ROUND, 0, 4, 2, 0, GREATEST), ["....", "##.#"])
        self.assertEqual(rows(ROUND, 0, 4, 2, -GREATEST, GREATEST), ["##.#", "..#."])
        self.assertEqual(rows(ROUND, 0, 4, 2, LEAST, GREATEST), ["##.#", "..#."])
        self.assertEqual(rows(ROUND, 0, 4, 1, LEAST, GREATEST), ["..#."])
        self.assertEqual(rows(ROUND, 0, 4, 64, LEAST, 1), ["...."] * 64)
        self.assertEqual(rows(ROUND, 0, 4, 64, GREATEST, 1), ["...."] * 64)
        self.assertEqual(rows(ROUND, 0, 4, 64, GREATEST, GREATEST), ["...."] * 64)

    def test_no_train(self):
        self.assertEqual(rows("crank 7 60\n", 0, 9, 2, 0, 1), ["." * 9, "#" * 9])
        self.assertEqual(rows("crank 7 60\n", 0, 9, 2, 1, 1), ["." * 9] * 2)

    def test_just_where_the_pen_stands(self):
        for steps, wide, high, low, scale in (
            (0, 64, 64, -160, 5), (0, 64, 64, -32, 1), (-500, 63, 31, -150, 10), (7, 9, 64, 0, 2),
            (GREATEST, 64, 8, -40, 9), (LEAST, 17, 5, -157, 63), (3, 33, 1, -20, 40), (123456, 64, 64, -100, 3),
        ):
            lines = rows(SOME, steps, wide, high, low, scale)
            for column, height in enumerate(pens(SOME, steps, wide)):
                marked = [high - 1 - row for row in range(high) if lines[row][column] == "#"]
                row = (height - low) // scale
                self.assertEqual(marked, [row] if 0 <= row < high else [])

    def test_curve_is_not_changed_by_what_was_drawn_before(self):
        told = asked(machine(ROUND), draw(0, 8, 3, -10, 10), draw(1, 8, 3, -10, 10), draw(0, 8, 3, -10, 10), pen(0, 2))
        self.assertEqual(told[1:], [[0, 3, 0x88, 0x55, 0x22], [0, 3, 0x11, 0xaa, 0x44], [0, 3, 0x88, 0x55, 0x22],
                                    [0, 2, 10, 0]])


class Refused(unittest.TestCase):
    RIGHT = {"steps": 0, "wide": 8, "high": 3, "low": -10, "scale": 10}

    def told(self, **changed):
        return asked_last(machine(ROUND), draw(**{**self.RIGHT, **changed}))

    def expect(self, name, refused, taken):
        for number in refused:
            with self.subTest(name=name, number=number):
                self.assertEqual(self.told(**{name: number}), [-1])
        for number in taken:
            with self.subTest(name=name, number=number):
                self.assertEqual(self.told(**{name: number})[0], 0)

    def test_steps(self):
        self.expect("steps", (LEAST - 1, GREATEST + 1, -FAR, FAR), (LEAST, -1, 0, 1, GREATEST))

    def test_wide(self):
        self.expect("wide", (0, 65, 66, 256, FAR), (1, 7, 8, 9, 63, 64))

    def test_high(self):
        self.expect("high", (0, 65, 66, 256, FAR), (1, 2, 63, 64))

    def test_low(self):
        self.expect("low", (LEAST - 1, GREATEST + 1, -FAR, FAR), (LEAST, -1, 0, 1, GREATEST))

    def test_scale(self):
        self.expect("scale", (0, GREATEST + 1, GREATEST + 2, FAR), (1, 2, GREATEST - 1, GREATEST))

    def test_all_at_once(self):
        self.assertEqual(self.told(steps=FAR, wide=0, high=0, low=FAR, scale=0), [-1])

    def test_no_train_is_no_way_round_the_bounds(self):
        for call in (draw(0, 0, 1, 0, 1), draw(0, 1, 65, 0, 1), draw(0, 1, 1, 0, 0), draw(FAR, 1, 1, 0, 1)):
            self.assertEqual(asked_last(machine("crank 1 1\n"), call), [-1])


if __name__ == "__main__":
    unittest.main()
