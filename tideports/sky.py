"""A sky: the lines of a right text, and how its waves and sums are numbered."""

from tideports.faults import NAME_NOT_THERE, NAME_TWICE, TextFault
from tideports.skytext import ANGLE, SUM, WAVE, read_lines

TOO_MANY = 4
TOO_MUCH = 5
MOST_ANGLES = 16
MOST_WAVES = 128
FACTORS_END = 1000000000000
MOST_COUNTS = 12


class Sky:
    """The lines as they stand; numbers tells each wave's and sum's number by its name."""

    def __init__(self, lines):
        self.lines = lines
        self.numbers = {}
        for line in lines:
            if line.word != ANGLE:
                self.numbers[line.name] = len(self.numbers)


def read_sky(text):
    """The sky of this text; raises TextFault with the text's fault."""
    lines = read_lines(text)
    known = {}
    for line in lines:
        judge_line(line, known)
        known[line.name] = line.word
    return Sky(lines)


def judge_line(line, known):
    """Known are the names of the lines before, each with its line's word."""
    # A line's name stands before its SUMs, and the lesser kinds are told first: hence this order.
    if line.name in known:
        raise TextFault(NAME_TWICE, line.place)
    if is_beyond_number(line, known):
        raise TextFault(TOO_MANY, line.place)
    if is_too_much(line):
        raise TextFault(TOO_MUCH, line.place)
    wanted = WAVE if line.word == SUM else ANGLE
    judge_terms(line.terms, known, wanted)
    for part in line.factors + line.shifts:
        judge_terms(part[1], known, wanted)


def is_beyond_number(line, known):
    angles = list(known.values()).count(ANGLE)
    if line.word == ANGLE:
        return angles >= MOST_ANGLES
    return len(known) - angles >= MOST_WAVES


def is_too_much(line):
    if line.word == SUM:
        return sum([abs(term[0]) for term in line.terms]) > MOST_COUNTS
    return sum([abs(factor[0]) for factor in line.factors]) >= FACTORS_END


def judge_terms(terms, known, wanted):
    for term in terms:
        if known.get(term[1]) != wanted:
            raise TextFault(NAME_NOT_THERE, term[2])
