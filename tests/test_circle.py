"""Cosines and sines: those in 192 bits number for number, C and S against the truth."""

import random
import unittest
from fractions import Fraction
from math import floor

from tests.helper import TRUE_BITS, TURN, nearest_cosine, nearest_sine, true_cosine
from tideports.circle import QUARTER_ARC, cosine, cosine_of_turn, on_ray, sine

ONE = 2 ** 192
QUARTER = 2 ** 30
ENDS = (0, QUARTER, 2 * QUARTER, 3 * QUARTER)
MIDDLES = tuple(end + QUARTER // 2 for end in ENDS)


def near(places, reach):
    return [(place + step) % TURN for place in places for step in range(-reach, reach + 1)]


def drawn_angles(seed, count):
    chance = random.Random(seed)
    return [chance.randrange(TURN) for each in range(count)]


# The cosine in 192 bits once more, as the document tells it, division by division.

def terms(arc):
    told = [ONE]
    for number in range(1, 64):
        told.append(floor(Fraction(floor(Fraction(told[-1] * arc, ONE)), number)))
    return told


def signed_sum(numbers):
    return sum(number if place % 2 == 0 else -number for place, number in enumerate(numbers))


def of_quarter(part, whole):
    if 2 * part <= whole:
        return signed_sum(terms(floor(Fraction(QUARTER_ARC * part, whole)))[0:63:2])
    return signed_sum(terms(floor(Fraction(QUARTER_ARC * (whole - part), whole)))[1:64:2])


def of_turn(part, whole):
    quarter, rest = divmod(4 * part, whole)
    return (of_quarter(rest, whole), -of_quarter(whole - rest, whole), -of_quarter(rest, whole),
            of_quarter(whole - rest, whole))[quarter]


class Fine(unittest.TestCase):
    """The cosine in 192 bits."""

    def test_quarter_arc(self):
        self.assertEqual(QUARTER_ARC, 9860048348863269281198066682114134445731725432595044866280)

    def test_quarters(self):
        for whole in (4, 8, 2 ** 32, 360, 7):
            self.assertEqual(cosine_of_turn(0, whole), ONE)
        for whole in (4, 8, 2 ** 32, 360):
            wanted = [ONE, 0, -ONE, 0]
            self.assertEqual([cosine_of_turn(quarter * whole // 4, whole) for quarter in range(4)], wanted)

    def test_ends_and_middles(self):
        for angle in near(ENDS + MIDDLES, 2):
            self.assertEqual(cosine_of_turn(angle, TURN), of_turn(angle, TURN), angle)

    def test_drawn_angles(self):
        for angle in drawn_angles(1, 300):
            self.assertEqual(cosine_of_turn(angle, TURN), of_turn(angle, TURN), angle)

    def test_other_wholes(self):
        for whole in (1, 2, 3, 5, 7, 8, 12, 16, 24, 45, 2 ** 31 - 1):
            for part in range(min(whole, 60)):
                self.assertEqual(cosine_of_turn(part, whole), of_turn(part, whole), (part, whole))

    def test_near_the_truth(self):
        for angle in drawn_angles(2, 300) + near(ENDS + MIDDLES, 2):
            off = (cosine_of_turn(angle, TURN) << (TRUE_BITS - 192)) - true_cosine(angle)
            self.assertLess(abs(off), 2 ** (TRUE_BITS - 184), angle)

    def test_rounded_with_its_sign(self):
        half, step = 2 ** 161, 2 ** 162
        for fine, wanted in ((0, 0), (half - 1, 0), (half, 1), (step, 1), (step + half - 1, 1), (step + half, 2),
                             (ONE, 2 ** 30), (ONE - half, 2 ** 30), (ONE - half - 1, 2 ** 30 - 1)):
            self.assertEqual(on_ray(fine), wanted)
            self.assertEqual(on_ray(-fine), -wanted)


class Rays(unittest.TestCase):
    """C and S."""

    def test_quarters_ends(self):
        self.assertEqual([cosine(end) for end in ENDS], [2 ** 30, 0, -2 ** 30, 0])
        self.assertEqual([sine(end) for end in ENDS], [0, 2 ** 30, 0, -2 ** 30])

    def test_around_the_quarters_ends(self):
        for step, wanted in ((1, 2), (2, 3), (3, 5), (4, 6), (1000, 1571)):
            for told in (cosine(QUARTER - step), cosine(3 * QUARTER + step), sine(step), sine(2 * QUARTER - step)):
                self.assertEqual(told, wanted)
            for told in (cosine(QUARTER + step), cosine(3 * QUARTER - step), sine(TURN - step),
                         sine(2 * QUARTER + step)):
                self.assertEqual(told, -wanted)
        for step, wanted in ((1, 2 ** 30), (20860, 2 ** 30), (20861, 2 ** 30 - 1)):
            self.assertEqual([cosine(step), cosine(TURN - step), sine(QUARTER - step), sine(QUARTER + step)],
                             [wanted] * 4)
            self.assertEqual([cosine(2 * QUARTER - step), cosine(2 * QUARTER + step), sine(3 * QUARTER - step),
                              sine(3 * QUARTER + step)], [-wanted] * 4)

    def test_middle_of_a_quarter(self):
        middle = QUARTER // 2
        self.assertEqual([cosine(middle - 1), cosine(middle), cosine(middle + 1)], [759250126, 759250125, 759250124])
        self.assertEqual([sine(middle - 1), sine(middle), sine(middle + 1)], [759250124, 759250125, 759250126])
        self.assertEqual([cosine(place) for place in MIDDLES], [759250125, -759250125, -759250125, 759250125])
        self.assertEqual([sine(place) for place in MIDDLES], [759250125, 759250125, -759250125, -759250125])

    def test_the_nearest_to_the_truth(self):
        angles = near(ENDS + MIDDLES, 40) + drawn_angles(3, 4000)
        angles += [number * TURN // 720 for number in range(720)] + [2 ** bit for bit in range(32)]
        for angle in angles:
            self.assertEqual(cosine(angle), nearest_cosine(angle), angle)
            self.assertEqual(sine(angle), nearest_sine(angle), angle)

    def test_within_a_half_of_the_truth(self):
        half = 2 ** (TRUE_BITS - 31)
        for angle in drawn_angles(4, 500):
            self.assertLessEqual(abs((cosine(angle) << (TRUE_BITS - 30)) - true_cosine(angle)), half)
            self.assertLessEqual(abs((sine(angle) << (TRUE_BITS - 30)) - true_cosine((angle - QUARTER) % TURN)), half)

    def test_a_turns_halves(self):
        for angle in drawn_angles(5, 300):
            self.assertEqual(cosine((angle + 2 * QUARTER) % TURN), -cosine(angle))
            self.assertEqual(cosine(-angle % TURN), cosine(angle))
            self.assertEqual(sine(-angle % TURN), -sine(angle))
