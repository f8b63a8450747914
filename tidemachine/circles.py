"""Angles and their cosines, division by division as the document tells them, so that every bit is the one it asks."""

FULL_TURN = 4294967296

# Arcs, cosines and sines are kept as whole numbers, 2^192 times what they stand for.
BITS = 192
# Half of pi, cut.
QUARTER_ARC = 9860048348863269281198066682114134445731725432595044866280
TERMS = 64

# C keeps 30 of the 192 bits.
BITS_LEFT_OUT = 162


# The angle of an exact part of a turn, two numbers, which is from 0 on and below 1: it's cut.
def angle_of(part):
    return part[0] * FULL_TURN // part[1]


# C(a) of an angle: 2^30 times its cosine, rounded.
def ray_cosine(angle):
    cosine = cosine_of_turn(angle, FULL_TURN)
    half = 1 << (BITS_LEFT_OUT - 1)
    size = (abs(cosine) + half) >> BITS_LEFT_OUT
    return -size if cosine < 0 else size


# The cosine of above / below of a turn, from 0 on and below 1.
def cosine_of_turn(above, below):
    quarters = 4 * above // below
    rest = 4 * above % below
    if quarters == 0:
        return cosine_of_quarter(rest, below)
    if quarters == 1:
        return -cosine_of_quarter(below - rest, below)
    if quarters == 2:
        return -cosine_of_quarter(rest, below)
    return cosine_of_quarter(below - rest, below)


# The cosine of above / below of a quarter, from 0 to 1.
def cosine_of_quarter(above, below):
    if 2 * above <= below:
        return cosine_of_arc(QUARTER_ARC * above // below)
    return sine_of_arc(QUARTER_ARC * (below - above) // below)


def cosine_of_arc(arc):
    terms = terms_of_arc(arc)
    return sum(terms[0::4]) - sum(terms[2::4])


def sine_of_arc(arc):
    terms = terms_of_arc(arc)
    return sum(terms[1::4]) - sum(terms[3::4])


# t(0), t(1), ... of an arc, up to t(63) or the first that is 0.
def terms_of_arc(arc):
    term = 1 << BITS
    terms = [term]
    # Behind a 0 all are 0, and sums don't need them.
    while term > 0 and len(terms) < TERMS:
        term = ((term * arc) >> BITS) // len(terms)
        terms.append(term)
    return terms
