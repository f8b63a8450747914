"""Where the pen stands, and the curve that it draws on the drum."""

from tidemachine.circles import angle_of, ray_cosine
from tidemachine.trains import part_after

# C is 2^30 times a cosine.
ONE = 1073741824
HALF = 536870912


# Where the pen stands after so many steps, in tenths of a millimetre: rounded once, a tie to the greater.
def pen_after(machine, steps):
    height = 0
    for train in machine.trains:
        height += train.size * ray_cosine(angle_of(part_after(machine, train, steps)))
    return (height + HALF) // ONE


# Where the pen stands after so many steps, after one more, and so on: a list of count numbers.
def pens_from(machine, steps, count):
    return [pen_after(machine, steps + more) for more in range(count)]


# The curve of these pens, a column each, in high rows of bits from low up: a list of bytes.
def curve_of(pens, high, low, scale):
    width = (len(pens) + 7) // 8
    curve = [0] * (width * high)
    for column, pen in enumerate(pens):
        row = (pen - low) // scale
        if 0 <= row < high:
            place = (high - 1 - row) * width + column // 8
            # Each column has one mark at most, so this bit hasn't been added yet.
            curve[place] += 128 >> (column % 8)
    return curve
