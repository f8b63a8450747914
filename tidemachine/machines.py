"""Machines' texts: read, judged and printed."""

from tidemachine.fault import Fault, NAME_TWICE
from tidemachine.reader import Reader

TOO_MANY_TRAINS = 3
START_TOO_LARGE = 4

MOST_TRAINS = 64
MOST_PAIRS = 6

TEETH_DIGITS = 3
MINUTES_DIGITS = 5
START_DIGITS = 6
SIZE_DIGITS = 2
SIZE_DIGITS_BEHIND = 4
METRE = 10000


# A train; its size is in tenths of a millimetre, the places are those of its name and its START.
class Train:
    def __init__(self, name, name_place, size, start, start_place, pairs):
        self.name = name
        self.name_place = name_place
        self.size = size
        self.start = start
        self.start_place = start_place
        self.pairs = pairs


# The crank's teeth and minutes, and the trains as they stand.
class Machine:
    def __init__(self, teeth, minutes, trains):
        self.teeth = teeth
        self.minutes = minutes
        self.trains = trains


# The machine that a right text tells; a text that isn't right raises its Fault.
def read_machine(text):
    reader = Reader(text)
    reader.take_word("crank ")
    teeth = reader.take_whole(TEETH_DIGITS)
    reader.take_word(" ")
    minutes = reader.take_whole(MINUTES_DIGITS)
    reader.take_word("\n")
    trains = []
    while not reader.at_end():
        trains.append(read_train(reader))
    judge_trains(trains)
    return Machine(teeth, minutes, trains)


def read_train(reader):
    reader.take_word("train ")
    name_place = reader.place
    name = reader.take_name()
    reader.take_word(" ")
    size = reader.take_decimal(SIZE_DIGITS, SIZE_DIGITS_BEHIND)
    reader.take_word(" ")
    start_place = reader.place
    start = read_start(reader)
    pairs = read_pairs(reader)
    return Train(name, name_place, size, start, start_place, pairs)


def read_start(reader):
    if reader.stands("0"):
        reader.take_word("0")
        return 0
    return reader.take_whole(START_DIGITS)


# The pairs up to the line's end, each as a tuple of two numbers of teeth.
def read_pairs(reader):
    reader.take_word(" ")
    pairs = [read_pair(reader)]
    while len(pairs) < MOST_PAIRS and reader.stands(" "):
        reader.take_word(" ")
        pairs.append(read_pair(reader))
    reader.take_word("\n")
    return pairs


def read_pair(reader):
    driving = reader.take_whole(TEETH_DIGITS)
    reader.take_word("/")
    driven = reader.take_whole(TEETH_DIGITS)
    return (driving, driven)


# Raises the first Fault by place, if there's one; a line's checks stand in the order of place, then of kind.
def judge_trains(trains):
    names = {}
    for number, train in enumerate(trains):
        if train.name in names:
            raise Fault(NAME_TWICE, train.name_place)
        if number >= MOST_TRAINS:
            raise Fault(TOO_MANY_TRAINS, train.name_place)
        if train.start >= last_teeth(train):
            raise Fault(START_TOO_LARGE, train.start_place)
        names[train.name] = True


# How many teeth the train's last wheel has.
def last_teeth(train):
    pair = train.pairs[len(train.pairs) - 1]
    return pair[1]


# The machine's text printed, as a list of bytes.
def printed(machine):
    teeth = machine.teeth
    minutes = machine.minutes
    text = bytes_of(f"crank {teeth} {minutes}\n")
    for train in machine.trains:
        text.extend(printed_train(train))
    return text


def printed_train(train):
    size = printed_size(train.size)
    start = train.start
    pairs = "".join([printed_pair(pair) for pair in train.pairs])
    return bytes_of("train ") + list(train.name) + bytes_of(f" {size} {start}{pairs}\n")


def printed_size(size):
    whole = size // METRE
    part = str(size % METRE).zfill(SIZE_DIGITS_BEHIND).rstrip("0")
    if part == "":
        return str(whole)
    return f"{whole}.{part}"


def printed_pair(pair):
    driving = pair[0]
    driven = pair[1]
    return f" {driving}/{driven}"


def bytes_of(text):
    return [ord(sign) for sign in text]
