"""What is kept of a sky's lines: every number and term that they tell."""

import unittest

from tests.helper import SKY
from tideports.sky import read_sky
from tideports.skytext import read_lines


class Lines(unittest.TestCase):

    def test_angle(self):
        line = read_lines("angle s -012.5 0.000000000001\n")[0]
        self.assertEqual((line.word, line.name, line.place), ("angle ", "s", 6))
        self.assertEqual((line.phase, line.rate), (-12500000000000, 1))

    def test_wave(self):
        line = read_lines("wave M2 - 2 s + 15 h - p turn 270 factor -0.037 N shift 1 2 N - s shift -2.5 s\n")[0]
        self.assertEqual((line.word, line.name, line.place, line.turn), ("wave ", "M2", 5, 270))
        self.assertEqual(line.terms, [(-2, "s", 12), (15, "h", 19), (-1, "p", 23)])
        self.assertEqual(line.factors, [(-37000000000, [(1, "N", 48)])])
        self.assertEqual(line.shifts, [(10 ** 12, [(2, "N", 60), (-1, "s", 64)]),
                                       (-2500000000000, [(1, "s", 77)])])

    def test_plain_wave(self):
        line = read_lines("wave S2 s\n")[0]
        self.assertEqual((line.terms, line.turn, line.factors, line.shifts), ([(1, "s", 8)], 0, [], []))
        self.assertEqual((line.phase, line.rate), (0, 0))

    def test_turns(self):
        for turn in (90, 180, 270):
            self.assertEqual(read_lines(f"wave S2 s turn {turn}\n")[0].turn, turn)

    def test_sum(self):
        lines = read_lines("angle s 0 0\nsum MS4 3 M2 - S2\n")
        self.assertEqual((lines[1].word, lines[1].name, lines[1].place), ("sum ", "MS4", 16))
        self.assertEqual(lines[1].terms, [(3, "M2", 22), (-1, "S2", 27)])

    def test_sky(self):
        sky = read_sky(SKY)
        self.assertEqual([line.name for line in sky.lines], ["s", "h", "turn", "M2", "S2", "K1", "MS4", "M6"])
        self.assertEqual(sky.numbers, {"M2": 0, "S2": 1, "K1": 2, "MS4": 3, "M6": 4})
