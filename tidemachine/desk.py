"""The calls on one object, and what is answered to them."""

from tidemachine.apart import all_have_waves, first_off, steps_until_off
from tidemachine.circles import angle_of
from tidemachine.fault import Fault
from tidemachine.machines import printed, read_machine
from tidemachine.pen import curve_of, pens_from
from tidemachine.ratios import lowest_terms
from tidemachine.skies import read_sky
from tidemachine.trains import part_after, speed_of
from tidemachine.waves import wave_speeds

MACHINE = 0
SKY = 1
PRINT = 2
SIZE = 3
SPEED = 4
AT = 5
PEN = 6
RIGHT = 7
FIRST = 8

# How many whole numbers each call has behind its own number; machine and sky have a row in their place.
WHOLE_NUMBERS = (0, 0, 0, 0, 1, 2, 2, 2, 1, 5)

OUT_OF_BOUNDS = -1
NOT_THERE_YET = -3
NO_TRAIN = -4
TEXT_AT_FAULT = -6
NO_WAVE = -9

LEAST = -2147483648
GREATEST = 2147483647
MOST_PENS = 256
MOST_PART = 1000000
MOST_BITS = 64


# The object: the machine and the sky that it has, None while there's none.
class Desk:
    def __init__(self):
        self.machine = None
        self.sky = None


# What is answered to the calls, one behind another on a new object: each answer with its count before it.
def answers(calls):
    desk = Desk()
    told = []
    place = 0
    while place < len(calls):
        end = end_of_call(calls, place)
        answer = answer_to(desk, calls[place], calls[place + 1:end])
        told.append(len(answer))
        told.extend(answer)
        place = end
    return told


# The place behind the call that begins at this place.
def end_of_call(calls, place):
    call = calls[place]
    if call == MACHINE or call == SKY:
        return place + 2 + calls[place + 1]
    return place + 1 + WHOLE_NUMBERS[call]


# The numbers that are answered to one call; given is what stands behind the call's own number.
def answer_to(desk, call, given):
    if call == MACHINE or call == SKY:
        return answer_text(desk, call, given[1:])
    if desk.machine is None:
        return [NOT_THERE_YET]
    if call == RIGHT or call == FIRST:
        return answer_with_sky(desk, call, given)
    return answer_with_machine(desk.machine, call, given)


# Gives the object the machine or the sky of a right text; with a fault the object is as it was.
def answer_text(desk, call, text):
    try:
        if call == MACHINE:
            desk.machine = read_machine(text)
        else:
            desk.sky = read_sky(text)
    except Fault as fault:
        return [TEXT_AT_FAULT, fault.kind, fault.place]
    return [0]


def answer_with_machine(machine, call, given):
    if call == PRINT:
        return answer_print(machine)
    if call == SIZE:
        return answer_size(machine)
    if call == SPEED:
        return answer_speed(machine, given[0])
    if call == AT:
        return answer_at(machine, given[0], given[1])
    if call == PEN:
        return answer_pen(machine, given[0], given[1])
    return answer_draw(machine, given)


def answer_with_sky(desk, call, given):
    if desk.sky is None:
        return [NOT_THERE_YET]
    speeds = wave_speeds(desk.sky)
    if call == RIGHT:
        return answer_right(desk.machine, speeds, given[0], given[1])
    return answer_first(desk.machine, speeds, given[0])


def answer_print(machine):
    text = printed(machine)
    return [0, len(text)] + text


def answer_size(machine):
    return [0, len(machine.trains), machine.teeth, machine.minutes]


def answer_speed(machine, number):
    if number >= len(machine.trains):
        return [NO_TRAIN]
    speed = speed_of(machine, machine.trains[number])
    return [0, speed[0], speed[1]]


def answer_at(machine, number, steps):
    if number >= len(machine.trains):
        return [NO_TRAIN]
    if not is_within(steps, LEAST, GREATEST):
        return [OUT_OF_BOUNDS]
    part = part_after(machine, machine.trains[number], steps)
    lowest = lowest_terms(part[0], part[1])
    return [0, lowest[0], lowest[1], angle_of(part)]


def answer_pen(machine, steps, count):
    if not is_within(steps, LEAST, GREATEST) or count > MOST_PENS:
        return [OUT_OF_BOUNDS]
    return [0, count] + pens_from(machine, steps, count)


def answer_right(machine, speeds, number, part):
    if number >= len(machine.trains):
        return [NO_TRAIN]
    train = machine.trains[number]
    if train.name not in speeds:
        return [NO_WAVE]
    if not is_within(part, 1, MOST_PART):
        return [OUT_OF_BOUNDS]
    steps = steps_until_off(machine, train, speeds, part)
    return [0] if steps is None else [1, steps]


def answer_first(machine, speeds, part):
    if not all_have_waves(machine, speeds):
        return [NO_WAVE]
    if not is_within(part, 1, MOST_PART):
        return [OUT_OF_BOUNDS]
    found = first_off(machine, speeds, part)
    return [0] if found is None else [1, found[0], found[1]]


def answer_draw(machine, given):
    steps = given[0]
    wide = given[1]
    high = given[2]
    low = given[3]
    scale = given[4]
    if not is_within(steps, LEAST, GREATEST) or not is_within(low, LEAST, GREATEST):
        return [OUT_OF_BOUNDS]
    if not is_within(wide, 1, MOST_BITS) or not is_within(high, 1, MOST_BITS) or not is_within(scale, 1, GREATEST):
        return [OUT_OF_BOUNDS]
    curve = curve_of(pens_from(machine, steps, wide), high, low, scale)
    return [0, len(curve)] + curve


def is_within(number, least, greatest):
    return least <= number <= greatest
