"""What the tests share: making calls, and a second judge of texts that is written from the document alone."""

import re
import unittest

from tideports.harbour import answers

PRINT = [2]
SIZE = [3]

SKY = """\
angle s 0 0.5
angle h 280.1 0.041
angle turn 12.5 -000.002
wave M2 2 s - 2 h turn 180 factor -0.037 turn shift -2.1 turn
wave S2 2 s
wave K1 s + h turn 90 factor 0.1 turn - h factor 0.2 turn shift 1 h shift 2 - 2 h
sum MS4 M2 + S2
sum M6 3 M2
"""
PORT = """\
level 1.25
wave M6 00.5000 359.999
wave M2 1 0
wave K1 99.9999 010.50
"""


def row(text):
    codes = list(text) if isinstance(text, bytes) else [ord(sign) for sign in text]
    return [len(codes)] + codes


def sky(text):
    return [0] + row(text)


def port(text):
    return [1] + row(text)


def wave(index):
    return [4, index]


def split(told):
    """What was told, call by call."""
    parts = []
    place = 0
    while place < len(told):
        end = place + 1 + told[place]
        if end > len(told):
            raise AssertionError(f"an answer is cut off: {told}")
        parts.append(told[place + 1:end])
        place = end
    return parts


def tell(*calls):
    """The answers to these calls on one new object, a list each."""
    flat = [number for call in calls for number in call]
    parts = split(answers(flat))
    if len(parts) != len(calls):
        raise AssertionError(f"{len(calls)} calls, {len(parts)} answers")
    return parts


def printed(answer):
    """The text of print's answer."""
    if answer[0] != 0 or answer[1] != len(answer) - 2:
        raise AssertionError(f"no printed text: {answer}")
    return bytes(answer[2:]).decode("ascii")


class TextCase(unittest.TestCase):
    """Tests of texts and what is told of them."""

    def assert_sky(self, text, *fault):
        """The sky is right or, if told, has this fault: kind, place."""
        self.assertEqual(tell(sky(text)), [[-6, *fault] if fault else [0]], text)

    def assert_port(self, text, *fault, over=SKY):
        wanted = [-5, *fault] if fault else [0]
        self.assertEqual(tell(sky(over), port(text)), [[0], wanted], text)

    def assert_cuts(self, text, judge, empty_is_right):
        """Cut anywhere but behind a line the text is at fault where it ends."""
        for length in range(len(text)):
            start = text[:length]
            right = start.endswith("\n") or (start == "" and empty_is_right)
            judge(start, *(() if right else (1, length)))


# The grammars once more, as machines that may be in several states at once.

class Machine:
    """States with steps by a sign and steps by nothing; built from the grammar's rules."""

    def __init__(self):
        self.steps = []
        self.free = []

    def state(self):
        self.steps.append([])
        self.free.append([])
        return len(self.steps) - 1

    def build(self, rule, start):
        """Adds what the rule allows from the state start; gives back the state behind it."""
        if isinstance(rule, str):
            for sign in rule:
                start = self.build({sign}, start)
            return start
        end = self.state()
        if isinstance(rule, (set, frozenset)):
            self.steps[start].append((rule, end))
            return end
        sort, *rules = rule
        if sort == "row":
            for each in rules:
                start = self.build(each, start)
            self.free[start].append(end)
        elif sort == "either":
            for each in rules:
                self.free[self.build(each, start)].append(end)
        else:
            least, most, each = rules
            for count in range(most):
                if count >= least:
                    self.free[start].append(end)
                start = self.build(each, start)
            self.free[start].append(end)
        return end

    def spread(self, states):
        todo = list(states)
        found = set(todo)
        while todo:
            for state in self.free[todo.pop()]:
                if state not in found:
                    found.add(state)
                    todo.append(state)
        return found


def times(least, most, rule):
    return ("times", least, most, rule)


def maybe(rule):
    return times(0, 1, rule)


DIGIT = set("0123456789")
LETTER = set("ABCDEFGHIJKLMNOPQRSTUVWXYZabcdefghijklmnopqrstuvwxyz")
NAME = ("row", LETTER, times(0, 6, LETTER | DIGIT))


def decimal(before, behind):
    return ("row", times(1, before, DIGIT), maybe(("row", ".", times(1, behind, DIGIT))))


NUMBER = ("row", maybe("-"), decimal(3, 12))
TERM = ("row", maybe(("row", ("either", *[str(count) for count in range(1, 16)]), " ")), NAME)
SUM = ("row", maybe("- "), TERM, times(0, 7, ("row", ("either", " + ", " - "), TERM)))
SKY_LINE = ("either",
            ("row", "angle ", NAME, " ", NUMBER, " ", NUMBER),
            ("row", "wave ", NAME, " ", SUM,
             maybe(("row", " turn ", ("either", "90", "180", "270"))),
             times(0, 8, ("row", " factor ", NUMBER, " ", SUM)),
             times(0, 8, ("row", " shift ", NUMBER, " ", SUM))),
            ("row", "sum ", NAME, " ", SUM))
LEVEL_LINE = ("row", "level ", maybe("-"), decimal(2, 4))
WAVE_LINE = ("row", "wave ", NAME, " ", decimal(2, 4), " ", decimal(3, 3))


class Grammar:
    """Lines of the rule first (None if there is none such), then any number of lines of the rule other."""

    def __init__(self, first, other):
        self.machine = Machine()
        start = self.machine.state()
        self.right = start if first is None else self.machine.build(("row", first, "\n"), start)
        self.machine.free[self.machine.build(("row", other, "\n"), self.right)].append(self.right)
        self.start = start

    def fault(self, text):
        """The first place where no text goes on; None if there is none."""
        states = self.machine.spread([self.start])
        for place, sign in enumerate(text):
            states = self.machine.spread([end for state in states
                                          for signs, end in self.machine.steps[state] if sign in signs])
            if not states:
                return place
        return None if self.right in states else len(text)


SKY_GRAMMAR = Grammar(None, SKY_LINE)
PORT_GRAMMAR = Grammar(LEVEL_LINE, WAVE_LINE)

NUMBER_WORD = r"-?\d+(?:\.\d+)?"
NAME_WORD = "[A-Za-z][A-Za-z0-9]*"
TERM_WORDS = rf"(?:\d+ )?{NAME_WORD}"
SUM_WORDS = rf"(?:- )?{TERM_WORDS}(?: [+-] {TERM_WORDS})*"
WAVE_WORDS = re.compile(rf"wave ({NAME_WORD}) ({SUM_WORDS})(?: turn \d+)?"
                        rf"((?: factor {NUMBER_WORD} {SUM_WORDS})*)((?: shift {NUMBER_WORD} {SUM_WORDS})*)\n")


def names_of_sum(words, place):
    """The names of a SUM that stands at this place, each with its place."""
    return [(found.group(), place + found.start()) for found in re.finditer(rf"(?<![0-9A-Za-z]){NAME_WORD}", words)]


def sums_of_wave(line, place):
    """The names in all of a wave's SUMs with their places, and its factors' numbers."""
    found = WAVE_WORDS.fullmatch(line)
    names = names_of_sum(found.group(2), place + found.start(2))
    numbers = []
    for group, word in ((3, "factor"), (4, "shift")):
        for part in re.finditer(rf" {word} ({NUMBER_WORD}) ({SUM_WORDS})", found.group(group)):
            names += names_of_sum(part.group(2), place + found.start(group) + part.start(2))
            if word == "factor":
                numbers.append(part.group(1))
    return names, numbers


def unsigned_units(number):
    """A number without its sign, in units of 10^-12."""
    before, point, behind = number.lstrip("-").partition(".")
    return int(before) * 10 ** 12 + int(behind.ljust(12, "0") if point else 0)


def faults_of_sky(text):
    """All faults of kinds 2 to 5 that a text of right grammar has, as (place, kind)."""
    faults = []
    words = {}
    counted = {"angle": 0, "other": 0}
    place = 0
    for line in text.splitlines(keepends=True):
        word, name = line.split()[:2]
        at = place + len(word) + 1
        names, much = [], False
        if word == "wave":
            names, numbers = sums_of_wave(line, place)
            much = sum(unsigned_units(number) for number in numbers) >= 10 ** 12
        if word == "sum":
            head = len("sum ") + len(name) + 1
            names = names_of_sum(line[head:], place + head)
            counts = re.findall(r"(?<![0-9A-Za-z])\d+(?= )", line[head:])
            much = sum(int(count) for count in counts) + len(names) - len(counts) > 12
        counter = "angle" if word == "angle" else "other"
        counted[counter] += 1
        faults += [(at, 2)] if name in words else []
        faults += [(at, 4)] if counted[counter] == {"angle": 17, "other": 129}[counter] else []
        faults += [(at, 5)] if much else []
        faults += [(where, 3) for each, where in names
                   if words.get(each) != {"wave": "angle", "sum": "wave"}[word]]
        words.setdefault(name, word)
        place += len(line)
    return faults


def told_of_sky(text):
    """What the call sky is to answer."""
    place = SKY_GRAMMAR.fault(text)
    if place is not None:
        return [-6, 1, place]
    faults = faults_of_sky(text)
    return [-6, min(faults)[1], min(faults)[0]] if faults else [0]


def told_of_port(text, over):
    """What the call port is to answer over this right sky."""
    place = PORT_GRAMMAR.fault(text)
    if place is not None:
        return [-5, 1, place]
    waves = [line.split()[1] for line in over.splitlines() if not line.startswith("angle ")]
    faults = []
    names = []
    for found in re.finditer(rf"wave ({NAME_WORD}) [0-9.]+ ([0-9.]+)\n", text):
        name = found.group(1)
        faults += [(found.start(1), 2)] if name in names else []
        faults += [(found.start(1), 3)] if name not in waves else []
        faults += [(found.start(2), 4)] if int(found.group(2).partition(".")[0]) >= 360 else []
        names.append(name)
    return [-5, min(faults)[1], min(faults)[0]] if faults else [0]
