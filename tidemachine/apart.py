"""How long trains are right: when they're first off against the waves of their names."""

from tidemachine.trains import speed_of
from tidemachine.waves import TURN_IN_A_MINUTE


# Whether each of the machine's trains has a wave or sum of its name.
def all_have_waves(machine, speeds):
    return all([train.name in speeds for train in machine.trains])


# After how many steps the train is first off by a part-th of a turn or more; None if it never is.
def steps_until_off(machine, train, speeds, part):
    speed = speed_of(machine, train)
    # In a minute train and wave grow apart by grown / whole of a turn.
    grown = abs(speed[0] * TURN_IN_A_MINUTE - speeds[train.name] * speed[1])
    whole = speed[1] * TURN_IN_A_MINUTE
    if grown == 0:
        return None
    # So it's the least k with k * minutes / teeth * grown / whole not below 1 / part.
    each = grown * machine.minutes * part
    needed = whole * machine.teeth
    return (needed + each - 1) // each


# The number of the train that's first off so, of several the first, and after how many steps; None if none ever is.
def first_off(machine, speeds, part):
    found = None
    for number, train in enumerate(machine.trains):
        steps = steps_until_off(machine, train, speeds, part)
        if steps is not None and (found is None or steps < found[1]):
            found = (number, steps)
    return found
