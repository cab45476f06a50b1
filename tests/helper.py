"""What the tests share: making calls, a second judge of texts and a second reckoning of heights, both written from
the document alone, and drawn skies and ports."""

import random
import re
import unittest
from fractions import Fraction
from math import floor, isqrt

from tideports.harbour import answers

PRINT = [2]
SIZE = [3]

SKY = """\
angle s 0 0.5
angle h 280.1 0.041
angle turn 12.5 -000.002
wave M2 2 s - 2 h turn 180 factor -0.037 turn shift -2.1 turn
wave S2 2 s
wave K1 s + h turn 90 factor 0.1 turn - h factor 0.2 turn shift 1 h shift 2 - 2 h
sum MS4 M2 + S2
sum M6 3 M2
"""
PORT = """\
level 1.25
wave M6 00.5000 359.999
wave M2 1 0
wave K1 99.9999 010.50
"""


def row(text):
    codes = list(text) if isinstance(text, bytes) else [ord(sign) for sign in text]
    return [len(codes)] + codes


def sky(text):
    return [0] + row(text)


def port(text):
    return [1] + row(text)


def wave(index):
    return [4, index]


def height(minute):
    return [5, minute]


def heights(minute, count):
    return [6, minute, count]


def most(minute, count):
    return [7, minute, count]


def first(minute, count, bound, up):
    return [8, minute, count, bound, up]


def split(told):
    """What was told, call by call."""
    parts = []
    place = 0
    while place < len(told):
        end = place + 1 + told[place]
        if end > len(told):
            raise AssertionError(f"an answer is cut off: {told}")
        parts.append(told[place + 1:end])
        place = end
    return parts


def tell(*calls):
    """The answers to these calls on one new object, a list each."""
    flat = [number for call in calls for number in call]
    parts = split(answers(flat))
    if len(parts) != len(calls):
        raise AssertionError(f"{len(calls)} calls, {len(parts)} answers")
    return parts


def printed(answer):
    """The text of print's answer."""
    if answer[0] != 0 or answer[1] != len(answer) - 2:
        raise AssertionError(f"no printed text: {answer}")
    return bytes(answer[2:]).decode("ascii")


class TextCase(unittest.TestCase):
    """Tests of texts and what is told of them."""

    def assert_sky(self, text, *fault):
        """The sky is right or, if told, has this fault: kind, place."""
        self.assertEqual(tell(sky(text)), [[-6, *fault] if fault else [0]], text)

    def assert_port(self, text, *fault, over=SKY):
        wanted = [-5, *fault] if fault else [0]
        self.assertEqual(tell(sky(over), port(text)), [[0], wanted], text)

    def assert_cuts(self, text, judge, empty_is_right):
        """Cut anywhere but behind a line the text is at fault where it ends."""
        for length in range(len(text)):
            start = text[:length]
            right = start.endswith("\n") or (start == "" and empty_is_right)
            judge(start, *(() if right else (1, length)))


# The grammars once more, as machines that may be in several states at once.

class Machine:
    """States with steps by a sign and steps by nothing; built from the grammar's rules."""

    def __init__(self):
        self.steps = []
        self.free = []

    def state(self):
        self.steps.append([])
        self.free.append([])
        return len(self.steps) - 1

    def build(self, rule, start):
        """Adds what the rule allows from the state start; gives back the state behind it."""
        if isinstance(rule, str):
            for sign in rule:
                start = self.build({sign}, start)
            return start
        end = self.state()
        if isinstance(rule, (set, frozenset)):
            self.steps[start].append((rule, end))
            return end
        sort, *rules = rule
        if sort == "row":
            for each in rules:
                start = self.build(each, start)
            self.free[start].append(end)
        elif sort == "either":
            for each in rules:
                self.free[self.build(each, start)].append(end)
        else:
            least, most, each = rules
            for count in range(most):
                if count >= least:
                    self.free[start].append(end)
                start = self.build(each, start)
            self.free[start].append(end)
        return end

    def spread(self, states):
        todo = list(states)
        found = set(todo)
        while todo:
            for state in self.free[todo.pop()]:
                if state not in found:
                    found.add(state)
                    todo.append(state)
        return found


def times(least, most, rule):
    return ("times", least, most, rule)


def maybe(rule):
    return times(0, 1, rule)


DIGIT = set("0123456789")
LETTER = set("ABCDEFGHIJKLMNOPQRSTUVWXYZabcdefghijklmnopqrstuvwxyz")
NAME = ("row", LETTER, times(0, 6, LETTER | DIGIT))


def decimal(before, behind):
    return ("row", times(1, before, DIGIT), maybe(("row", ".", times(1, behind, DIGIT))))


NUMBER = ("row", maybe("-"), decimal(3, 12))
TERM = ("row", maybe(("row", ("either", *[str(count) for count in range(1, 16)]), " ")), NAME)
SUM = ("row", maybe("- "), TERM, times(0, 7, ("row", ("either", " + ", " - "), TERM)))
SKY_LINE = ("either",
            ("row", "angle ", NAME, " ", NUMBER, " ", NUMBER),
            ("row", "wave ", NAME, " ", SUM,
             maybe(("row", " turn ", ("either", "90", "180", "270"))),
             times(0, 8, ("row", " factor ", NUMBER, " ", SUM)),
             times(0, 8, ("row", " shift ", NUMBER, " ", SUM))),
            ("row", "sum ", NAME, " ", SUM))
LEVEL_LINE = ("row", "level ", maybe("-"), decimal(2, 4))
WAVE_LINE = ("row", "wave ", NAME, " ", decimal(2, 4), " ", decimal(3, 3))


class Grammar:
    """Lines of the rule first (None if there is none such), then any number of lines of the rule other."""

    def __init__(self, first, other):
        self.machine = Machine()
        start = self.machine.state()
        self.right = start if first is None else self.machine.build(("row", first, "\n"), start)
        self.machine.free[self.machine.build(("row", other, "\n"), self.right)].append(self.right)
        self.start = start

    def fault(self, text):
        """The first place where no text goes on; None if there is none."""
        states = self.machine.spread([self.start])
        for place, sign in enumerate(text):
            states = self.machine.spread([end for state in states
                                          for signs, end in self.machine.steps[state] if sign in signs])
            if not states:
                return place
        return None if self.right in states else len(text)


SKY_GRAMMAR = Grammar(None, SKY_LINE)
PORT_GRAMMAR = Grammar(LEVEL_LINE, WAVE_LINE)

NUMBER_WORD = r"-?\d+(?:\.\d+)?"
NAME_WORD = "[A-Za-z][A-Za-z0-9]*"
TERM_WORDS = rf"(?:\d+ )?{NAME_WORD}"
SUM_WORDS = rf"(?:- )?{TERM_WORDS}(?: [+-] {TERM_WORDS})*"
WAVE_WORDS = re.compile(rf"wave ({NAME_WORD}) ({SUM_WORDS})(?: turn (\d+))?"
                        rf"((?: factor {NUMBER_WORD} {SUM_WORDS})*)((?: shift {NUMBER_WORD} {SUM_WORDS})*)\n")


def names_of_sum(words, place):
    """The names of a SUM that stands at this place, each with its place."""
    return [(found.group(), place + found.start()) for found in re.finditer(rf"(?<![0-9A-Za-z]){NAME_WORD}", words)]


def sums_of_wave(line, place):
    """The names in all of a wave's SUMs with their places, and its factors' numbers."""
    found = WAVE_WORDS.fullmatch(line)
    names = names_of_sum(found.group(2), place + found.start(2))
    numbers = []
    for group, word in ((4, "factor"), (5, "shift")):
        for part in re.finditer(rf" {word} ({NUMBER_WORD}) ({SUM_WORDS})", found.group(group)):
            names += names_of_sum(part.group(2), place + found.start(group) + part.start(2))
            if word == "factor":
                numbers.append(part.group(1))
    return names, numbers


def unsigned_units(number):
    """A number without its sign, in units of 10^-12."""
    before, point, behind = number.lstrip("-").partition(".")
    return int(before) * 10 ** 12 + int(behind.ljust(12, "0") if point else 0)


def faults_of_sky(text):
    """All faults of kinds 2 to 5 that a text of right grammar has, as (place, kind)."""
    faults = []
    words = {}
    counted = {"angle": 0, "other": 0}
    place = 0
    for line in text.splitlines(keepends=True):
        word, name = line.split()[:2]
        at = place + len(word) + 1
        names, much = [], False
        if word == "wave":
            names, numbers = sums_of_wave(line, place)
            much = sum(unsigned_units(number) for number in numbers) >= 10 ** 12
        if word == "sum":
            head = len("sum ") + len(name) + 1
            names = names_of_sum(line[head:], place + head)
            counts = re.findall(r"(?<![0-9A-Za-z])\d+(?= )", line[head:])
            much = sum(int(count) for count in counts) + len(names) - len(counts) > 12
        counter = "angle" if word == "angle" else "other"
        counted[counter] += 1
        faults += [(at, 2)] if name in words else []
        faults += [(at, 4)] if counted[counter] == {"angle": 17, "other": 129}[counter] else []
        faults += [(at, 5)] if much else []
        faults += [(where, 3) for each, where in names
                   if words.get(each) != {"wave": "angle", "sum": "wave"}[word]]
        words.setdefault(name, word)
        place += len(line)
    return faults


def told_of_sky(text):
    """What the call sky is to answer."""
    place = SKY_GRAMMAR.fault(text)
    if place is not None:
        return [-6, 1, place]
    faults = faults_of_sky(text)
    return [-6, min(faults)[1], min(faults)[0]] if faults else [0]


def told_of_port(text, over):
    """What the call port is to answer over this right sky."""
    place = PORT_GRAMMAR.fault(text)
    if place is not None:
        return [-5, 1, place]
    waves = [line.split()[1] for line in over.splitlines() if not line.startswith("angle ")]
    faults = []
    names = []
    for found in re.finditer(rf"wave ({NAME_WORD}) [0-9.]+ ([0-9.]+)\n", text):
        name = found.group(1)
        faults += [(found.start(1), 2)] if name in names else []
        faults += [(found.start(1), 3)] if name not in waves else []
        faults += [(found.start(2), 4)] if int(found.group(2).partition(".")[0]) >= 360 else []
        names.append(name)
    return [-5, min(faults)[1], min(faults)[0]] if faults else [0]


# Heights once more, in exact fractions.

FIRST_MINUTE = -2 ** 31
LAST_MINUTE = 2 ** 31 - 1
TURN = 2 ** 32
TRUE_BITS = 400


def halved_rays():
    """The true cosines and sines of 2^-1 to 2^-32 of a turn, 2^400 times, by halving angles: no series, no pi."""
    one = 2 ** TRUE_BITS
    rays = [(-one, 0), (0, one)]
    while len(rays) < 32:
        cosine, sine = rays[-1]
        half_cosine = isqrt((one + cosine) * one // 2)
        rays.append((half_cosine, sine * one // (2 * half_cosine)))
    return rays


HALVED_RAYS = halved_rays()
COSINES = {}


def true_cosine(angle):
    """2^400 times the cosine of angle / 2^32 of a turn, off by less than 2^60."""
    cosine, sine = 2 ** TRUE_BITS, 0
    for place, (other_cosine, other_sine) in enumerate(HALVED_RAYS):
        if angle >> (31 - place) & 1:
            cosine, sine = ((cosine * other_cosine - sine * other_sine) >> TRUE_BITS,
                            (sine * other_cosine + cosine * other_sine) >> TRUE_BITS)
    return cosine


def nearest_cosine(angle):
    """The whole number nearest to 2^30 times the cosine."""
    if angle not in COSINES:
        twice = true_cosine(angle) >> (TRUE_BITS - 31 - 100)
        if (twice + 1) % 2 ** 101 in (2 ** 100, 2 ** 100 + 1, 2 ** 100 + 2):
            raise AssertionError(f"too near to a middle: {angle}")
        COSINES[angle] = (twice + 2 ** 100) >> 101
    return COSINES[angle]


def nearest_sine(angle):
    return nearest_cosine((angle - TURN // 4) % TURN)


def rounded(number):
    """The nearest whole number, a tie to the greater."""
    return floor(number + Fraction(1, 2))


def cut(turns):
    return floor(turns * TURN) % TURN


def steadied(minute):
    return 32768 * floor(Fraction(minute, 32768)) + 16384


def terms_of(words):
    """The names of a SUM, each with its signed count before it."""
    terms = []
    sign, count = 1, 1
    for word in words.split():
        if word in ("+", "-"):
            sign = 1 if word == "+" else -1
        elif word.isdigit():
            count = int(word)
        else:
            terms.append((sign * count, word))
            count = 1
    return terms


class SecondSky:
    """A right sky's text, in exact fractions."""

    def __init__(self, text):
        self.angles, self.waves, self.sums = {}, {}, {}
        for line in text.splitlines(keepends=True):
            word, name, rest = line.rstrip("\n").split(" ", 2)
            if word == "angle":
                self.angles[name] = [Fraction(number) for number in rest.split()]
            elif word == "sum":
                self.sums[name] = terms_of(rest)
            else:
                self.waves[name] = self.wave_of(line)
        self.numbers = [line.split()[1] for line in text.splitlines() if not line.startswith("angle ")]

    @staticmethod
    def wave_of(line):
        found = WAVE_WORDS.fullmatch(line)
        parts = []
        for group, word in ((4, "factor"), (5, "shift")):
            parts.append([(Fraction(part.group(1)), terms_of(part.group(2))) for part in
                          re.finditer(rf" {word} ({NUMBER_WORD}) ({SUM_WORDS})", found.group(group))])
        return terms_of(found.group(2)), int(found.group(3) or 0), *parts

    def degrees(self, terms, minute):
        return sum(count * (self.angles[name][0] + self.angles[name][1] * minute / 60) for count, name in terms)

    def angle(self, terms, minute):
        return cut(self.degrees(terms, minute) / 360)

    def argument(self, name, minute):
        """In degrees, exactly."""
        if name in self.sums:
            return sum(count * self.argument(each, minute) for count, each in self.sums[name])
        return self.degrees(self.waves[name][0], minute) + self.waves[name][1]

    def factor(self, name, minute):
        if name not in self.sums:
            return rounded(2 ** 30 + sum(number * nearest_cosine(self.angle(terms, minute))
                                         for number, terms in self.waves[name][2]))
        product = Fraction(2 ** 30)
        for count, each in self.sums[name]:
            product *= Fraction(self.factor(each, minute), 2 ** 30) ** abs(count)
        return rounded(product)

    def shift(self, name, minute):
        """In degrees, exactly."""
        if name in self.sums:
            return sum(count * self.shift(each, minute) for count, each in self.sums[name])
        return sum(number * Fraction(nearest_sine(self.angle(terms, minute)), 2 ** 30)
                   for number, terms in self.waves[name][3])


class SecondPort:
    """A right port's text over a right sky's, in exact fractions."""

    def __init__(self, over, text):
        self.sky = SecondSky(over)
        level, *waves = text.splitlines()
        self.level = Fraction(level.split()[1]) * 10000
        self.waves = [(line.split()[1], Fraction(line.split()[2]) * 10000, Fraction(line.split()[3])) for line in waves]
        self.steady = {}

    def steady_of(self, name, minute):
        """A wave's factor and shift at a minute."""
        if (name, minute) not in self.steady:
            self.steady[name, minute] = (self.sky.factor(name, minute), self.sky.shift(name, minute))
        return self.steady[name, minute]

    def exact(self, minute):
        """The exact sum."""
        total = self.level
        for name, size, lag in self.waves:
            factor, shift = self.steady_of(name, steadied(minute))
            angle = cut((self.sky.argument(name, minute) + shift - lag) / 360)
            total += size * factor * nearest_cosine(angle) / 2 ** 60
        return total

    def height(self, minute):
        return rounded(self.exact(minute))

    def printed(self):
        lines = ["level " + plain_decimal(self.level, 4)]
        for name, size, lag in self.waves:
            lines.append(f"wave {name} {plain_decimal(size, 4)} {plain_decimal(lag * 1000, 3)}")
        return "".join(line + "\n" for line in lines)


def plain_decimal(value, behind):
    """A number in units of the last place behind the point, as printed."""
    before, rest = divmod(abs(int(value)), 10 ** behind)
    text = f"{before}." + f"{rest:0{behind}}".rstrip("0")
    return ("-" if value < 0 else "") + text.rstrip(".")


class Drawer:
    """Draws right skies with every part of the grammar, and right ports over them; the same for the same seed."""

    def __init__(self, seed):
        self.chance = random.Random(seed)

    def number(self, most_units, behind, signed=True):
        """A number of at most so many units of the last place that it may have behind the point."""
        places = self.chance.choice((0, 1, behind // 2, behind, behind))
        step = 10 ** (behind - places)
        units = self.chance.randint(0, most_units // step)
        digits = str(units).zfill(places + 1)
        text = digits[:-places] + "." + digits[-places:] if places else digits
        return self.chance.choice(("", "-" if signed else "")) + text

    def terms(self, names, counts):
        """A SUM with these counts."""
        text = ""
        for place, count in enumerate(counts):
            sign = self.chance.choice("+-")
            text += f" {sign} " if place else self.chance.choice(("", "- "))
            text += (f"{count} " if count > 1 or self.chance.random() < 0.2 else "") + self.chance.choice(names)
        return text

    def counts(self, most_terms):
        return [self.chance.choice((1, 1, 2, self.chance.randint(1, 15))) for each in range(most_terms)]

    def wave(self, angles):
        text = self.terms(angles, self.counts(self.chance.choice((1, 2, 4, 8))))
        text += self.chance.choice(("", " turn 90", " turn 180", " turn 270"))
        factors = self.chance.choice((0, 1, 2, 8))
        for each in range(factors):
            number = self.number((10 ** 12 - 1) // factors, 12)
            text += f" factor {number} " + self.terms(angles, self.counts(self.chance.choice((1, 2, 8))))
        for each in range(self.chance.choice((0, 1, 2, 8))):
            number = self.number(self.chance.choice((999 * 10 ** 12, 30 * 10 ** 12, 10 ** 6)), 12)
            text += f" shift {number} " + self.terms(angles, self.counts(self.chance.choice((1, 2, 8))))
        return text

    def sum_counts(self):
        """At most 8 counts, together at most 12."""
        left = self.chance.randint(1, 12)
        counts = []
        while left and len(counts) < 8:
            counts.append(self.chance.randint(1, left))
            left -= counts[-1]
        return counts

    def sky(self, most_waves=5):
        """A right sky's text."""
        angles = [f"a{number}" for number in range(self.chance.choice((1, 2, 5, 16)))]
        text = ""
        for name in angles:
            rate = self.number(self.chance.choice((10 ** 15 - 1, 10 ** 12)), 12)
            text += f"angle {name} {self.number(10 ** 15 - 1, 12)} {rate}\n"
        waves = [f"w{number}" for number in range(self.chance.randint(1, most_waves))]
        for name in waves:
            text += f"wave {name} {self.wave(angles)}\n"
        for number in range(self.chance.randint(0, most_waves)):
            text += f"sum s{number} {self.terms(waves, self.sum_counts())}\n"
        return text

    def port(self, over):
        """A right port's text over this sky, in any order."""
        names = [line.split()[1] for line in over.splitlines() if not line.startswith("angle ")]
        self.chance.shuffle(names)
        text = f"level {self.number(999999, 4)}\n"
        for name in names[:self.chance.randint(1, len(names))]:
            text += f"wave {name} {self.number(999999, 4, False)} {self.number(359999, 3, False)}\n"
        return text

    def minute(self):
        """A minute, often one that the document names or beside such a one."""
        near = self.chance.choice((FIRST_MINUTE, LAST_MINUTE, 0, 32768 * self.chance.randint(-65536, 65535),
                                   self.chance.randint(FIRST_MINUTE, LAST_MINUTE),
                                   self.chance.randint(-10 ** 6, 10 ** 6)))
        return min(max(near + self.chance.randint(-2, 2), FIRST_MINUTE), LAST_MINUTE)
