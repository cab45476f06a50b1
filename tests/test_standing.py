"""Where waves stand: arguments, factors and shifts, against the second reckoning and on ties."""

import random
import unittest
from fractions import Fraction

from tests.helper import (Drawer, FIRST_MINUTE, LAST_MINUTE, SecondSky, TURN, nearest_cosine, rounded, steadied)
from tideports.skytext import read_lines
from tideports.standing import Steady, TURN_UNITS, cut, motions_of, nearest, steadies_of, steady_of_sum
from tideports.tides import lines_for, steady_minute

ONE = 2 ** 30


def waves_of(text):
    return [line for line in read_lines(text) if line.word != "angle "]


def steadies(text, minute):
    return steadies_of(waves_of(text), motions_of(read_lines(text)), minute)


def degrees_of_angle(angle):
    """The least number of degrees with 12 digits behind the point that is cut to this angle."""
    units = -(-angle * 360 * 10 ** 12 // TURN)
    return f"{units // 10 ** 12}.{units % 10 ** 12:012}"


def odd_angles(count):
    """Angles of odd cosines, as many above 0 as below."""
    chance = random.Random(1)
    found = {1: [], -1: []}
    while min(len(angles) for angles in found.values()) < count:
        angle = chance.randrange(TURN)
        if nearest_cosine(angle) % 2:
            found[1 if nearest_cosine(angle) > 0 else -1].append(angle)
    return found[1][:count] + found[-1][:count]


class Rounding(unittest.TestCase):

    def test_nearest(self):
        for number, divisor, wanted in ((0, 1, 0), (1, 2, 1), (-1, 2, 0), (3, 2, 2), (-3, 2, -1), (1, 3, 0), (2, 3, 1),
                                        (-1, 3, 0), (-2, 3, -1), (7, 1, 7), (-7, 1, -7), (49, 100, 0), (50, 100, 1),
                                        (-50, 100, 0), (-51, 100, -1), (5, 10, 1), (-15, 10, -1)):
            self.assertEqual(nearest(number, divisor), wanted, (number, divisor))

    def test_cut(self):
        for part, whole, wanted in ((0, 1, 0), (1, 4, ONE), (-1, 4, 3 * ONE), (4, 4, 0), (5, 4, ONE), (-9, 4, 3 * ONE),
                                    (1, 3, 1431655765), (-1, 3, 2863311530), (2, 3, 2863311530), (1, 10 ** 20, 0),
                                    (-1, 10 ** 20, TURN - 1), (10 ** 20 - 1, 10 ** 20, TURN - 1),
                                    (10 ** 20 + 1, 10 ** 20, 0), (1, TURN, 1), (-1, TURN, TURN - 1)):
            self.assertEqual(cut(part, whole), wanted, (part, whole))

    def test_steady_minute(self):
        for minute, wanted in ((0, 16384), (1, 16384), (16384, 16384), (32767, 16384), (32768, 49152), (65535, 49152),
                               (65536, 81920), (-1, -16384), (-32768, -16384), (-32769, -49152), (-65536, -49152),
                               (-65537, -81920), (FIRST_MINUTE, FIRST_MINUTE + 16384),
                               (LAST_MINUTE, LAST_MINUTE - 16383)):
            self.assertEqual(steady_minute(minute), wanted)
            self.assertEqual(steadied(minute), wanted)


class Arguments(unittest.TestCase):

    def test_ordinary(self):
        motions = motions_of(read_lines(
            "angle s -12.5 0.000000000001\nangle h 100 -999.999999999999\nwave w 2 s - h turn 270\nsum v - 2 w\n"))
        self.assertEqual((motions["s"].start, motions["s"].rate), (-750 * 10 ** 12, 1))
        self.assertEqual((motions["h"].start, motions["h"].rate), (6000 * 10 ** 12, -999999999999999))
        self.assertEqual((motions["w"].start, motions["w"].rate), ((-1500 - 6000 + 16200) * 10 ** 12, 1000000000000001))
        self.assertEqual((motions["v"].start, motions["v"].rate), (-17400 * 10 ** 12, -2000000000000002))
        self.assertEqual(TURN_UNITS, 360 * 60 * 10 ** 12)

    def test_drawn(self):
        drawer = Drawer(11)
        for each in range(60):
            text = drawer.sky()
            second = SecondSky(text)
            motions = motions_of(read_lines(text))
            for minute in (FIRST_MINUTE, LAST_MINUTE, 0, -1, drawer.minute()):
                for name in second.numbers:
                    self.assertEqual(Fraction(360 * motions[name].stand(minute), TURN_UNITS),
                                     second.argument(name, minute), text)


class FactorsAndShifts(unittest.TestCase):

    def test_none(self):
        told = steadies("angle s 1 2\nwave w s turn 90\nsum v 3 w - 2 w\n", 7)
        self.assertEqual([(steady.factor, steady.shift) for steady in told.values()], [(ONE, 0), (ONE, 0)])

    def test_ordinary(self):
        told = steadies("angle z 0 0\nangle q 90 0\nangle s 0 60\n"
                        "wave w s factor 0.25 z factor -0.5 2 q shift 2 q shift -3 s + q\nsum v 2 w - 3 w\n", 180)
        self.assertEqual((told["w"].factor, told["w"].shift), (ONE * 7 // 4, 5 * 10 ** 12 * ONE))
        self.assertEqual((told["v"].factor, told["v"].shift), (rounded(Fraction(7, 4) ** 5 * ONE), -5 * 10 ** 12 * ONE))

    def test_least_and_greatest_factor(self):
        told = steadies("angle z 0 0\nwave w z factor 0.999999999999 z\nwave v z factor -0.999999999999 z\n"
                        "wave u z factor 0.999999999 z\nsum x 12 w\nsum y w + 11 v\n", 0)
        self.assertEqual([told[name].factor for name in "wvuxy"], [2 * ONE, 0, 2 * ONE - 1, 4096 * ONE, 0])

    def test_angles_are_cut(self):
        """A unit of 10^-12 degrees makes the next 2^-32nd, on both sides of 0."""
        for angle, number, wanted in ((0, "0.000000083819", 0), (1, "0.000000083820", 2), (0, "0", 0),
                                      (-1, "-0.000000000001", -2), (-1, "-0.000000083819", -2),
                                      (-2, "-0.000000083820", -3)):
            told = steadies(f"angle s {number} 0\nwave w s shift 1 s\n", 0)
            self.assertEqual(told["w"].shift, wanted * 10 ** 12, number)
            self.assertEqual(SecondSky(f"angle s {number} 0\n").angle([(1, "s")], 0), angle % TURN)

    def test_a_waves_factor_on_a_tie(self):
        for angle in odd_angles(4):
            value = nearest_cosine(angle)
            for number, wanted in (("0.5", ONE + (value + 1) // 2), ("-0.5", ONE + (1 - value) // 2)):
                text = f"angle g {degrees_of_angle(angle)} 0\nwave w g factor {number} g\n"
                self.assertEqual(steadies(text, 5)["w"].factor, wanted)
                self.assertEqual(SecondSky(text).factor("w", 5), wanted)

    def test_a_sums_factor_on_a_tie(self):
        for odd in (ONE + 1, ONE - 1, 3, 1, 2 * ONE - 1):
            told = steady_of_sum([(1, "a", 0), (-1, "b", 0)], {"a": Steady(ONE // 2, 3), "b": Steady(odd, 5)})
            self.assertEqual((told.factor, told.shift), ((odd + 1) // 2, -2))

    def test_a_sums_factor_is_rounded_once(self):
        chance = random.Random(2)
        apart = 0
        for each in range(300):
            known = {name: Steady(chance.randint(0, 2 * ONE), chance.randint(-9, 9)) for name in "abc"}
            terms = [(chance.choice((-1, 1)) * chance.randint(1, 4), name, 0) for name in "abc"]
            exact, stepped = Fraction(ONE), ONE
            for count, name, place in terms:
                for time in range(abs(count)):
                    exact *= Fraction(known[name].factor, ONE)
                    stepped = rounded(Fraction(stepped * known[name].factor, ONE))
            told = steady_of_sum(terms, known)
            self.assertEqual(told.factor, rounded(exact))
            self.assertEqual(told.shift, sum(count * known[name].shift for count, name, place in terms))
            apart += rounded(exact) != stepped
        self.assertGreater(apart, 20)

    def test_drawn(self):
        drawer = Drawer(12)
        for each in range(80):
            text = drawer.sky()
            second = SecondSky(text)
            minute = steadied(drawer.minute())
            for name, steady in steadies(text, minute).items():
                self.assertEqual(steady.factor, second.factor(name, minute), text)
                self.assertEqual(Fraction(steady.shift, 10 ** 12 * ONE), second.shift(name, minute), text)


class Named:
    """What has a name."""

    def __init__(self, name):
        self.name = name


class Needed(unittest.TestCase):

    def test_lines_that_a_port_needs(self):
        lines = read_lines("angle s 0 0\nwave a s\nwave b s\nwave c s\nsum d a - c\nsum e b\n")
        for asked, wanted in (("", ""), ("a", "a"), ("d", "acd"), ("ed", "abcde"), ("eb", "be"), ("ca", "ac")):
            self.assertEqual("".join(line.name for line in lines_for([Named(name) for name in asked], lines)), wanted)
