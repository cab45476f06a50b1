"""Where a sky's angles, waves and sums stand: arguments, factors and shifts.

Parts of a turn are told in units of 60ths of 10^-12 degrees: so phases, turns and lags are whole, and a rate is
whole for a minute.
"""

from tideports.circle import TURN, cosine, sine
from tideports.skytext import ANGLE, WAVE

NUMBER_UNITS = 60
DEGREE_UNITS = 60000000000000
TURN_UNITS = 21600000000000000
NUMBER_ONE = 1000000000000
FACTOR_ONE = 1073741824


class Motion:
    """What goes evenly with time: where it stands at minute 0, and how far it goes in a minute."""

    def __init__(self, start, rate):
        self.start = start
        self.rate = rate

    def stand(self, minute):
        return self.start + self.rate * minute


class Steady:
    """A wave's or a sum's factor, in 2^-30ths, and its shift, in 2^-30ths of 10^-12 degrees, at one minute."""

    def __init__(self, factor, shift):
        self.factor = factor
        self.shift = shift


def nearest(number, divisor):
    """The whole number nearest to number / divisor, a tie to the greater."""
    return (2 * number + divisor) // (2 * divisor)


def cut(part, whole):
    """The angle that part / whole of a turn is cut to."""
    return part * TURN // whole % TURN


def motions_of(lines):
    """The motions of a sky's angles and of its waves' and sums' arguments, by their names."""
    motions = {}
    for line in lines:
        if line.word == ANGLE:
            motions[line.name] = Motion(line.phase * NUMBER_UNITS, line.rate)
        else:
            motion = motion_of_terms(line.terms, motions)
            motions[line.name] = Motion(motion.start + line.turn * DEGREE_UNITS, motion.rate)
    return motions


def motion_of_terms(terms, motions):
    start = sum([term[0] * motions[term[1]].start for term in terms])
    rate = sum([term[0] * motions[term[1]].rate for term in terms])
    return Motion(start, rate)


def steadies_of(lines, motions, minute):
    """Factor and shift of each of these waves and sums at a minute, by their names; a sum's waves are among them."""
    steadies = {}
    for line in lines:
        if line.word == WAVE:
            steadies[line.name] = steady_of_wave(line, motions, minute)
        else:
            steadies[line.name] = steady_of_sum(line.terms, steadies)
    return steadies


def steady_of_wave(line, motions, minute):
    factor = FACTOR_ONE * NUMBER_ONE
    for part in line.factors:
        factor += part[0] * cosine(angle_of_terms(part[1], motions, minute))
    shift = 0
    for part in line.shifts:
        shift += part[0] * sine(angle_of_terms(part[1], motions, minute))
    return Steady(nearest(factor, NUMBER_ONE), shift)


def angle_of_terms(terms, motions, minute):
    return cut(motion_of_terms(terms, motions).stand(minute), TURN_UNITS)


def steady_of_sum(terms, steadies):
    product = FACTOR_ONE
    divisor = 1
    shift = 0
    for term in terms:
        steady = steadies[term[1]]
        shift += term[0] * steady.shift
        # Kept whole to the end: the product is rounded once.
        for time in range(abs(term[0])):
            product *= steady.factor
            divisor *= FACTOR_ONE
    return Steady(nearest(product, divisor), shift)
