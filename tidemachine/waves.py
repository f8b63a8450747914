"""How fast a sky's waves and sums go, exactly."""

from tidemachine.skies import ANGLE, WAVE

# Speeds are kept as rates are, in degrees an hour and 10^12 times what they say: so many are one turn in a minute.
TURN_IN_A_MINUTE = 21600000000000000


# The speeds of the sky's waves and sums, by their names.
# An argument grows by its angles' rates alone: a turn is the same at every minute, and a shift is no part of it.
def wave_speeds(sky):
    rates = {}
    speeds = {}
    for line in sky:
        if line.word == ANGLE:
            rates[line.name] = line.rate
        elif line.word == WAVE:
            speeds[line.name] = total_of(line.terms, rates)
        else:
            speeds[line.name] = total_of(line.terms, speeds)
    return speeds


# What a SUM comes to, each of its names standing for its value.
def total_of(terms, known):
    return sum([term.times * known[term.name] for term in terms])
