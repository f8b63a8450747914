"""Skies' texts: read and judged."""

from tidemachine.fault import Fault, NAME_TWICE
from tidemachine.reader import Reader, is_digit

NAME_NOT_FIT = 3
TOO_MANY_LINES = 4
TOO_MUCH = 5

MOST_ANGLES = 16
MOST_OTHERS = 128
MOST_TERMS = 8
MOST_PARTS = 8
MOST_COUNTS = 12

NUMBER_DIGITS = 3
NUMBER_DIGITS_BEHIND = 12
# NUMBERs are kept as whole numbers of this part of 1, so that nothing of them is lost.
ONE = 1000000000000

ANGLE = "angle "
WAVE = "wave "
SUM = "sum "

PLUS = "+ "
MINUS = "- "
TURN = "turn "
FACTOR = "factor "
SHIFT = "shift "


# A name in a SUM, its place, and how often it's taken: its COUNT with its sign.
class Term:
    def __init__(self, times, name, place):
        self.times = times
        self.name = name
        self.place = place


# A factor or a shift: its NUMBER and its SUM's terms.
class Part:
    def __init__(self, number, terms):
        self.number = number
        self.terms = terms


# A line, told by its first word; what a line of this sort doesn't have stays empty or 0.
# Phases and turns aren't kept: no call asks where a wave stands, only how fast it goes.
class Line:
    def __init__(self, word, name, place):
        self.word = word
        self.name = name
        self.place = place
        self.rate = 0
        self.terms = []
        self.factors = []
        self.shifts = []


# The lines of a right text, in a list; a text that isn't right raises its Fault.
def read_sky(text):
    reader = Reader(text)
    lines = []
    while not reader.at_end():
        lines.append(read_line(reader))
    judge_lines(lines)
    return lines


def read_line(reader):
    word = reader.take_choice((ANGLE, WAVE, SUM))
    place = reader.place
    line = Line(word, reader.take_name(), place)
    reader.take_word(" ")
    if word == ANGLE:
        read_angle(reader, line)
    elif word == WAVE:
        read_wave(reader, line)
    else:
        read_terms(reader, line.terms, ())
    return line


def read_angle(reader, line):
    read_number(reader)
    reader.take_word(" ")
    line.rate = read_number(reader)
    reader.take_word("\n")


def read_wave(reader, line):
    word = read_terms(reader, line.terms, (TURN, FACTOR, SHIFT))
    if word == TURN:
        reader.take_choice(("90", "180", "270"))
        word = reader.take_end_or((FACTOR, SHIFT))
    while word == FACTOR:
        word = read_part(reader, line.factors, FACTOR, (SHIFT,))
    while word == SHIFT:
        word = read_part(reader, line.shifts, SHIFT, ())


# Reads a factor or a shift into parts; its own word may follow while there's room, and the words of behind.
def read_part(reader, parts, word, behind):
    number = read_number(reader)
    reader.take_word(" ")
    part = Part(number, [])
    parts.append(part)
    if len(parts) < MOST_PARTS:
        behind = (word,) + behind
    return read_terms(reader, part.terms, behind)


# Reads a SUM into terms, and gives back the word of behind that follows, or an empty text at the line's end.
def read_terms(reader, terms, behind):
    word = PLUS
    if reader.stands("-"):
        word = reader.take_choice((MINUS,))
    while word == PLUS or word == MINUS:
        terms.append(read_term(reader, word))
        joints = (PLUS, MINUS) if len(terms) < MOST_TERMS else ()
        word = reader.take_end_or(joints + behind)
    return word


def read_term(reader, word):
    times = 1
    if is_digit(reader.look()):
        times = read_count(reader)
        reader.take_word(" ")
    if word == MINUS:
        times = -times
    place = reader.place
    return Term(times, reader.take_name(), place)


def read_count(reader):
    count = reader.take_whole(1)
    # A count goes to 15: a second digit may stand behind a 1 alone, and only up to 5.
    if count == 1 and ord("0") <= reader.look() <= ord("5"):
        digits = reader.take_digits(1)
        count = 10 + digits[0]
    return count


# A NUMBER, ONE times what it says.
def read_number(reader):
    if reader.stands("-"):
        reader.take_word("-")
        return -reader.take_decimal(NUMBER_DIGITS, NUMBER_DIGITS_BEHIND)
    return reader.take_decimal(NUMBER_DIGITS, NUMBER_DIGITS_BEHIND)


# Raises the first Fault by place, if there's one; a line's checks stand in the order of place, then of kind.
def judge_lines(lines):
    words = {}
    angles = 0
    for number, line in enumerate(lines, start=1):
        if line.word == ANGLE:
            angles += 1
        if line.name in words:
            raise Fault(NAME_TWICE, line.place)
        if angles > MOST_ANGLES or number - angles > MOST_OTHERS:
            raise Fault(TOO_MANY_LINES, line.place)
        if has_too_much(line):
            raise Fault(TOO_MUCH, line.place)
        judge_names(line, words)
        words[line.name] = line.word


def has_too_much(line):
    if line.word == SUM:
        return sum([abs(term.times) for term in line.terms]) > MOST_COUNTS
    return sum([abs(factor.number) for factor in line.factors]) >= ONE


# Raises a Fault at the first name in the line's SUMs that no earlier line has, or one of another sort.
def judge_names(line, words):
    wanted = WAVE if line.word == SUM else ANGLE
    for term in all_terms(line):
        if words.get(term.name) != wanted:
            raise Fault(NAME_NOT_FIT, term.place)


# The terms of all SUMs of the line, as they stand.
def all_terms(line):
    terms = list(line.terms)
    for part in line.factors + line.shifts:
        terms.extend(part.terms)
    return terms
