"""How fast a machine's trains go and where they stand, exactly."""

from tidemachine.machines import last_teeth
from tidemachine.ratios import lowest_terms


# How many turns the train's last wheel makes in one turn of the crank: two numbers, not in lowest terms.
def turns_of(train):
    above = 1
    below = 1
    for pair in train.pairs:
        above = above * pair[0]
        below = below * pair[1]
    return (above, below)


# By how much of a turn the train's last wheel turns in a minute: two numbers, in lowest terms.
def speed_of(machine, train):
    turns = turns_of(train)
    return lowest_terms(turns[0], turns[1] * machine.minutes)


# The part of a turn at which the train stands after so many steps, whole turns taken off: two numbers.
# They aren't in lowest terms: the pen asks this often, and an angle is the same without.
def part_after(machine, train, steps):
    turns = turns_of(train)
    below = turns[1] * machine.teeth
    # The last wheel's teeth are a factor of below, so this division leaves no rest.
    start = train.start * (below // last_teeth(train))
    return ((start + steps * turns[0]) % below, below)
