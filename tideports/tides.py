"""A port's heights: its level and its waves over their sky."""

from tideports.circle import cosine
from tideports.skytext import SUM
from tideports.standing import DEGREE_UNITS, FACTOR_ONE, NUMBER_UNITS, TURN_UNITS
from tideports.standing import Motion, cut, motions_of, nearest, steadies_of

STEADY_SPAN = 32768
HALF_STEADY_SPAN = 16384
LAGS_OF_DEGREE = 1000
HEIGHT_ONE = 1152921504606846976


class Swing:
    """A port's wave while its sky is steadied at one minute.

    Its weight is its size times its factor; its motion, lag and shift within, is in 2^-30ths of a turn's units.
    """

    def __init__(self, weight, motion):
        self.weight = weight
        self.motion = motion


class Tides:
    """The heights of a port over its sky, and what was reckoned of them before: spans are often asked for again."""

    def __init__(self, sky, port):
        self.port = port
        self.motions = motions_of(sky.lines)
        self.lines = lines_for(port.waves, sky.lines)
        self.swings = {}
        self.heights = {}

    def height(self, minute):
        if minute not in self.heights:
            self.heights[minute] = self.reckon_height(minute)
        return self.heights[minute]

    def reckon_height(self, minute):
        total = self.port.level * HEIGHT_ONE
        for swing in self.swings_for(steady_minute(minute)):
            total += swing.weight * cosine(cut(swing.motion.stand(minute), TURN_UNITS * FACTOR_ONE))
        return nearest(total, HEIGHT_ONE)

    def swings_for(self, steadied):
        """The port's waves with the sky steadied at this minute."""
        if steadied not in self.swings:
            steadies = steadies_of(self.lines, self.motions, steadied)
            self.swings[steadied] = [
                swing_of(wave, self.motions[wave.name], steadies[wave.name]) for wave in self.port.waves]
        return self.swings[steadied]


def steady_minute(minute):
    return minute // STEADY_SPAN * STEADY_SPAN + HALF_STEADY_SPAN


def lines_for(waves, lines):
    """Those of a sky's lines whose factors and shifts these waves need: their own and those of their sums' waves."""
    needed = {}
    for wave in waves:
        needed[wave.name] = True
    for line in lines:
        if line.word == SUM and line.name in needed:
            for term in line.terms:
                needed[term[1]] = True
    return [line for line in lines if line.name in needed]


def swing_of(wave, motion, steady):
    lag = wave.lag * DEGREE_UNITS // LAGS_OF_DEGREE
    start = (motion.start - lag) * FACTOR_ONE + steady.shift * NUMBER_UNITS
    return Swing(wave.size * steady.factor, Motion(start, motion.rate * FACTOR_ONE))
