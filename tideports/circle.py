"""Angles, which are 2^-32nds of a turn, and their cosines and sines in 2^-30ths."""

TURN = 4294967296
QUARTER_TURN = 1073741824
QUARTER_ARC = 9860048348863269281198066682114134445731725432595044866280
FINE_BITS = 192
FINE_ONE = 6277101735386680763835789423207666416102355444464034512896
FINE_TERMS = 64
RAY_STEP = 5846006549323611672814739330865132078623730171904
HALF_RAY_STEP = 2923003274661805836407369665432566039311865085952


def cosine(angle):
    return on_ray(cosine_of_turn(angle, TURN))


def sine(angle):
    return cosine((angle - QUARTER_TURN) % TURN)


def on_ray(fine):
    """A cosine in 192 bits as a whole number of 2^-30ths, the same on both sides of 0."""
    size = (abs(fine) + HALF_RAY_STEP) // RAY_STEP
    return -size if fine < 0 else size


def cosine_of_turn(part, whole):
    """The cosine in 192 bits of part / whole of a turn, from 0 to below a whole one."""
    quarter = 4 * part // whole
    rest = 4 * part % whole
    if quarter == 0:
        return cosine_of_quarter(rest, whole)
    if quarter == 1:
        return -cosine_of_quarter(whole - rest, whole)
    if quarter == 2:
        return -cosine_of_quarter(rest, whole)
    return cosine_of_quarter(whole - rest, whole)


def cosine_of_quarter(part, whole):
    """The cosine in 192 bits of part / whole of a quarter, from 0 to a whole one."""
    if 2 * part <= whole:
        return cosine_of_arc(QUARTER_ARC * part // whole)
    return sine_of_arc(QUARTER_ARC * (whole - part) // whole)


def cosine_of_arc(arc):
    terms = arc_terms(arc)
    return sum(terms[0::4]) - sum(terms[2::4])


def sine_of_arc(arc):
    terms = arc_terms(arc)
    return sum(terms[1::4]) - sum(terms[3::4])


def arc_terms(arc):
    """The terms t(0) to t(63) of an arc, without those at the end that are 0."""
    terms = []
    term = FINE_ONE
    for number in range(1, FINE_TERMS + 1):
        terms.append(term)
        term = (term * arc >> FINE_BITS) // number
        # Behind a term that is 0 there are none but such.
        if term == 0:
            return terms
    return terms
