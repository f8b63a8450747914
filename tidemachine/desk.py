"""The calls on one object, and what is answered to them."""

from tidemachine.fault import Fault
from tidemachine.machines import printed, read_machine, speed_of
from tidemachine.skies import read_sky

MACHINE = 0
SKY = 1
PRINT = 2
SIZE = 3
SPEED = 4
RIGHT = 7
FIRST = 8

# How many whole numbers each call has behind its own number; machine and sky have a row in their place.
WHOLE_NUMBERS = (0, 0, 0, 0, 1, 2, 2, 2, 1, 5)


# The object: the machine and the sky that it has, None while there's none.
class Desk:
    def __init__(self):
        self.machine = None
        self.sky = None


# What is answered to the calls, one behind another on a new object: each answer with its count before it.
def answers(calls):
    desk = Desk()
    told = []
    place = 0
    while place < len(calls):
        end = end_of_call(calls, place)
        answer = answer_to(desk, calls[place], calls[place + 1:end])
        told.append(len(answer))
        told.extend(answer)
        place = end
    return told


# The place behind the call that begins at this place.
def end_of_call(calls, place):
    call = calls[place]
    if call == MACHINE or call == SKY:
        return place + 2 + calls[place + 1]
    return place + 1 + WHOLE_NUMBERS[call]


# The numbers that are answered to one call; given is what stands behind the call's own number.
def answer_to(desk, call, given):
    if call == MACHINE or call == SKY:
        return answer_text(desk, call, given[1:])
    if desk.machine is None or (desk.sky is None and (call == RIGHT or call == FIRST)):
        return [-3]
    if call == PRINT:
        return answer_print(desk.machine)
    if call == SIZE:
        return answer_size(desk.machine)
    if call == SPEED:
        return answer_speed(desk.machine, given[0])
    # at, pen, right, first and draw are still to be written; until then no answer is better than a made-up one.
    raise NotImplementedError(f"call {call}")


# Gives the object the machine or the sky of a right text; with a fault the object is as it was.
def answer_text(desk, call, text):
    try:
        if call == MACHINE:
            desk.machine = read_machine(text)
        else:
            desk.sky = read_sky(text)
    except Fault as fault:
        return [-6, fault.kind, fault.place]
    return [0]


def answer_print(machine):
    text = printed(machine)
    return [0, len(text)] + text


def answer_size(machine):
    return [0, len(machine.trains), machine.teeth, machine.minutes]


def answer_speed(machine, number):
    if number >= len(machine.trains):
        return [-4]
    speed = speed_of(machine, machine.trains[number])
    return [0, speed[0], speed[1]]
