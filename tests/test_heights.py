"""The call height: heights reckoned by hand, the edges and the refusals, ties."""

from fractions import Fraction

from tests.helper import (FIRST_MINUTE, LAST_MINUTE, PORT, SKY, TURN, SecondPort, SecondSky, TextCase, height,
                          nearest_cosine, port, rounded, sky, tell)

# s goes a degree in a minute; z stands at 0, q at 90 degrees.
ANGLES = "angle z 0 0\nangle q 90 0\nangle s 0 60\n"


class HeightCase(TextCase):

    def told(self, over, text, *minutes):
        answers = tell(sky(over), port(text), *[height(minute) for minute in minutes])
        self.assertEqual(answers[:2], [[0], [0]], over + text)
        self.assertEqual({(len(answer), answer[0]) for answer in answers[2:]}, {(2, 0)})
        return [answer[1] for answer in answers[2:]]

    def assert_heights(self, over, text, wanted):
        """These heights by their minutes, from the program and from the second reckoning."""
        self.assertEqual(self.told(over, text, *wanted), list(wanted.values()), over + text)
        second = SecondPort(over, text)
        self.assertEqual([second.height(minute) for minute in wanted], list(wanted.values()))

    def assert_wave(self, words, wanted, size="1", lag="0", angles=ANGLES):
        """The heights of one wave whose SUM and what is behind it are these words."""
        self.assert_heights(angles + f"wave w {words}\n", f"level 0\nwave w {size} {lag}\n", wanted)


class Ordinary(HeightCase):

    def test_level_alone(self):
        for level, wanted in (("0", 0), ("-0", 0), ("1.25", 12500), ("-99.9999", -999999), ("99.9999", 999999),
                              ("0.0001", 1), ("-0.0001", -1)):
            self.assert_heights("", f"level {level}\n", dict.fromkeys((0, -7, FIRST_MINUTE, LAST_MINUTE), wanted))

    def test_one_wave(self):
        self.assert_wave("s", {0: 10000, 1: 9998, 30: 8660, 45: 7071, 60: 5000, 90: 0, 120: -5000, 150: -8660,
                               180: -10000, 270: 0, 300: 5000, 360: 10000, -1: 9998, -60: 5000, -90: 0, -180: -10000})

    def test_sizes(self):
        self.assert_wave("s", {0: 999999, 60: 500000, 180: -999999}, size="99.9999")
        self.assert_wave("s", {0: 1, 59: 1, 61: 0, 119: 0, 121: -1, 180: -1}, size="0.0001")
        self.assert_wave("s", {0: 0, 90: 0, 180: 0}, size="00.0000")

    def test_lags(self):
        self.assert_wave("s", {0: 0, 90: 10000, 180: 0, 270: -10000}, lag="90")
        self.assert_wave("s", {0: 5000, 60: 10000, 150: 0}, lag="60.000")
        self.assert_wave("s", {0: 0, 270: 10000, 180: 0, 90: -10000}, lag="270")
        self.assert_wave("q", {0: 17}, size="99.9999", lag="0.001")
        self.assert_wave("q", {0: -17}, size="99.9999", lag="359.999")

    def test_turns(self):
        self.assert_wave("s turn 90", {0: 0, 30: -5000, 90: -10000, -30: 5000})
        self.assert_wave("s turn 180", {0: -10000, 60: -5000, 180: 10000})
        self.assert_wave("s turn 270", {0: 0, 30: 5000, 90: 10000, -30: -5000})

    def test_signs_and_counts(self):
        self.assert_wave("- s turn 270", {30: -5000, 90: -10000})
        self.assert_wave("2 s turn 270", {15: 5000, 45: 10000})
        self.assert_wave("15 s turn 270", {2: 5000, 6: 10000, 18: -10000})
        self.assert_wave("2 s - 3 s turn 270", {30: -5000, 90: -10000})
        self.assert_wave("- 2 s + q + 3 s", {30: -5000, 90: -10000})
        self.assert_wave("s + s + s + s + s + s + s - s turn 270", {5: 5000, 15: 10000})

    def test_phases_and_rates(self):
        for phase, rate, wanted in (("-30", "0", -5000), ("390", "0", 5000), ("-690", "0", 5000),
                                    ("030.000", "-0", 5000), ("0", "-30", -5000), ("0", "030.0", 5000),
                                    ("-15", "45", 5000), ("15", "-45", -5000), ("999", "-969", 5000)):
            self.assert_wave("p turn 270", {60: wanted}, angles=f"angle p {phase} {rate}\n")

    def test_several_waves(self):
        over = ANGLES + "wave a s\nwave b 2 s\nwave c q\nsum d a - b\n"
        self.assert_heights(over, "level -0.5\nwave d 0.01 0\nwave a 1 0\nwave b 0.1 180\n",
                            {0: -5000 + 100 + 10000 - 1000, 90: -5000 + 1000, 60: -5000 + 50 + 5000 + 500})
        self.assert_heights(over, "level 0\nwave c 99 0\n", {0: 0, 5: 0})

    def test_a_sky_of_every_part(self):
        second = SecondPort(SKY, PORT)
        minutes = [0, 1, -1, 1000, -100000, 32767, 32768, FIRST_MINUTE, LAST_MINUTE]
        self.assertEqual(self.told(SKY, PORT, *minutes), [second.height(minute) for minute in minutes])


class Sums(HeightCase):

    def assert_sum(self, words, wanted, size="1", lag="0"):
        over = ANGLES + ("wave a s\nwave b 2 s + q\nwave c z turn 90\nwave f z factor 0.5 z\n"
                         "wave g z factor -0.5 z shift 30 q\n")
        self.assert_heights(over + f"sum v {words}\n", f"level 0\nwave v {size} {lag}\n", wanted)

    def test_arguments(self):
        self.assert_sum("a", {60: 5000, 90: 0})
        self.assert_sum("- a + c", {30: 5000, -30: -5000})
        self.assert_sum("2 a - c", {15: 5000, 45: 10000})
        self.assert_sum("b - a", {30: -5000})
        self.assert_sum("- 3 b + 6 a", {0: 0})
        self.assert_sum("12 c", {7: 10000})
        self.assert_sum("2 c + a", {0: -10000})

    def test_factors(self):
        self.assert_sum("2 f", {0: 22500})
        self.assert_sum("- 2 f", {0: 22500})
        self.assert_sum("f - f", {0: 22500})
        self.assert_sum("12 f", {0: 1297463})
        self.assert_sum("a + f", {0: 15000, 60: 7500})

    def test_factors_and_shifts(self):
        self.assert_sum("g - c", {0: 2500})
        self.assert_sum("- g - c", {0: -2500})
        self.assert_sum("3 g", {0: 0})
        self.assert_sum("3 g + f", {0: 1875}, lag="90")
        self.assert_sum("2 g - 3 g + f", {0: 469}, lag="330")


class FactorsAndShifts(HeightCase):

    def test_factors(self):
        self.assert_wave("z factor 0.5 z", {0: 15000})
        self.assert_wave("z factor -0.5 z", {0: 5000})
        self.assert_wave("z factor 0.25 z factor -0.125 z", {0: 11250})
        self.assert_wave("z factor 0.5 q", {0: 10000})
        self.assert_wave("z factor 0.5 2 q", {0: 5000})
        self.assert_wave("z" + " factor 0.1 z" * 8, {0: 18000})
        self.assert_wave("z factor 0.999999999999 z", {0: 20000})
        self.assert_wave("z factor -0.999999999999 z", {0: 0})

    def test_shifts(self):
        self.assert_wave("z shift 90 q", {0: 0})
        self.assert_wave("z shift 90 q", {0: 10000}, lag="90")
        self.assert_wave("z shift -90 q", {0: 10000}, lag="270")
        self.assert_wave("z shift 90 - q", {0: 10000}, lag="270")
        self.assert_wave("z shift 999 z", {0: 10000})
        self.assert_wave("z shift 60 q shift 30 q", {0: 10000}, lag="90")
        self.assert_wave("z" + " shift 12.5 q" * 8, {0: 10000}, lag="100")

    def test_steadied_not_at_the_minute_itself(self):
        """n stands at 0 at minute 16384, at 8 degrees at 49152, at -8 degrees at -16384."""
        angles = "angle z 0 0\nangle n -184 60\n"
        self.assert_wave("z factor 0.5 n", {0: 15000, 1: 15000, 16384: 15000, 32767: 15000, 32768: 14951, 65535: 14951,
                                            -1: 14951, -32768: 14951}, angles=angles)
        self.assert_wave("z turn 270 shift 90 n", {0: 0, 32767: 0, 32768: 2169, 65535: 2169, -1: -2169, -32768: -2169},
                         angles=angles)

    def test_a_minute_before_and_behind_every_change(self):
        angles = "angle z 0 0\nangle n 0 0.003\n"
        over, text = angles + "wave w z turn 270 shift 180 n\n", "level 0\nwave w 99 0\n"
        second = SecondPort(over, text)
        for block in (-65536 + 1, -100, -1, 0, 1, 2, 1000, 65535):
            start = 32768 * block
            minutes = [start - 2, start - 1, start, start + 1, start + 16383, start + 16384, start + 32767]
            told = self.told(over, text, *minutes)
            self.assertEqual(told, [second.height(minute) for minute in minutes])
            self.assertEqual([told[0], len(set(told[2:]))], [told[1], 1])
            self.assertNotEqual(told[1], told[2])

    def test_the_argument_goes_on_from_minute_to_minute(self):
        self.assert_wave("s factor 0.5 z", {32767: 14888, 32768: 14854, -1: 14998})


class Ties(HeightCase):

    def test_above_and_below_0(self):
        over = ANGLES + "wave u z factor 0.5 z\nwave d z turn 180 factor 0.5 z\nwave h z factor -0.5 z\n"
        for text, wanted in (("level 0\nwave u 0.0001 0\n", 2), ("level 0\nwave d 0.0001 0\n", -1),
                             ("level 0.0001\nwave u 0.0001 0\n", 3), ("level -0.0001\nwave u 0.0001 0\n", 1),
                             ("level -0.0002\nwave u 0.0001 0\n", 0), ("level -0.0003\nwave u 0.0001 0\n", -1),
                             ("level -0.0003\nwave d 0.0001 0\n", -4), ("level 0.0001\nwave d 0.0001 0\n", 0),
                             ("level 0\nwave h 0.0001 0\n", 1), ("level 0\nwave h 0.0001 180\n", 0),
                             ("level 0\nwave u 0.0003 0\n", 5), ("level 0\nwave d 0.0003 0\n", -4),
                             ("level 0\nwave u 99.9999 0\n", 1499999), ("level 0\nwave d 99.9999 0\n", -1499998)):
            self.assert_heights(over, text, {0: wanted, -40000: wanted, LAST_MINUTE: wanted})

    def test_rounded_once(self):
        over = ANGLES + "wave a z factor 0.5 z\nwave b z factor 0.5 z\nwave c z turn 180 factor 0.5 z\n"
        over += "".join(f"wave x{number} z factor -0.6 z\n" for number in range(10))
        self.assert_heights(over, "level 0\nwave a 0.0001 0\nwave b 0.0001 0\n", {0: 3})
        self.assert_heights(over, "level 0\nwave a 0.0001 0\nwave c 0.0001 0\n", {0: 0})
        text = "level 0\n" + "".join(f"wave x{number} 0.0001 0\n" for number in range(10))
        self.assert_heights(over, text, {0: 4})

    def test_just_beside_a_tie(self):
        over = ANGLES + "wave u z factor 0.500000000932 z\nwave d z factor 0.499999999068 z\n"
        self.assert_heights(over, "level 0\nwave u 0.0001 0\n", {0: 2})
        self.assert_heights(over, "level 0\nwave d 0.0001 0\n", {0: 1})
        self.assert_heights(over, "level 0\nwave u 0.0001 180\n", {0: -2})
        self.assert_heights(over, "level 0\nwave d 0.0001 180\n", {0: -1})

    def test_factors_on_a_tie(self):
        """A size is found by which the height tells the factor from the one below."""
        signs = set()
        for degrees in (1, 2, 3, 4, 5, 6, 7, 8, 91, 92, 93, 94, 95, 96, 97, 98):
            for number in ("0.5", "-0.5"):
                over = f"angle z 0 0\nangle g {degrees} 0\nwave w z factor {number} g\n"
                value = nearest_cosine(SecondSky(over).angle([(1, "g")], 0))
                if value % 2:
                    signs.add((number, value > 0))
                    self.assert_factor(over, 2 ** 30 + ((value if number == "0.5" else -value) + 1) // 2)
        self.assertEqual(len(signs), 4)

    def assert_factor(self, over, factor):
        size = next(size for size in range(999999, 0, -1)
                    if rounded(Fraction(size * factor, 2 ** 30)) != rounded(Fraction(size * (factor - 1), 2 ** 30)))
        wanted = rounded(Fraction(size * factor, 2 ** 30))
        self.assert_heights(over, f"level 0\nwave w {size // 10000}.{size % 10000:04} 0\n", {0: wanted})


# Eleven of these in a sum make its factor 2^11 times as large: so a height tells C and F to the last unit.
GLASS = "angle z 0 0\nwave glass z factor 0.999999999999 z\n"


class UnderTheGlass(HeightCase):

    def assert_glass(self, words, minute, angles, factor=2 ** 30, angle=0):
        over = GLASS + angles + f"wave w {words}\nsum v w + 11 glass\n"
        wanted = Fraction(999999 * factor * 2 ** 11 * nearest_cosine(angle), 2 ** 60)
        self.assert_heights(over, "level 0\nwave v 99.9999 0\n", {minute: rounded(wanted)})

    def test_cosines(self):
        for angle in (0, 1, 20861, 2 ** 29 - 1, 2 ** 29, 2 ** 29 + 1, 2 ** 30 - 1, 2 ** 30, 2 ** 30 + 1, 3 * 2 ** 29,
                      2 ** 31 - 20861, 2 ** 31, 2 ** 31 + 1, 3 * 2 ** 30 - 1, 3 * 2 ** 30, 3 * 2 ** 30 + 1, 2 ** 32 - 1,
                      715827882, 1431655765, 123456789, 987654321, 4000000000):
            units = -(-angle * 360 * 10 ** 12 // TURN)
            self.assert_glass("g", 0, f"angle g {units // 10 ** 12}.{units % 10 ** 12:012} 0\n", angle=angle)

    def test_angles_are_cut(self):
        """83819 units of 10^-12 degrees are just below a 2^-32nd of a turn, 83820 just above."""
        for words, angle in (("0.000000083819 0", 0), ("0.000000083820 0", 1), ("-0.000000000001 0", -1),
                             ("-0.000000083819 0", -1), ("-0.000000083820 0", -2), ("0 0.000000083819", 0),
                             ("0 0.000000083820", 1), ("0 -0.000000000001", -1), ("0.000000083819 0.000000000001", 1),
                             ("0.000000083820 -0.000000000001", 0)):
            self.assert_glass("g turn 270", 60, f"angle g {words}\n", angle=(angle - 2 ** 30) % TURN)

    def test_cut_once(self):
        """Two parts below a 2^-32nd make one together; a shift's and a lag's parts count, too."""
        angles = "angle g 0.00000005 0\nangle q 90 0\n"
        self.assert_glass("g turn 270", 0, angles, angle=3 * 2 ** 30)
        self.assert_glass("g + g turn 270", 0, angles, angle=3 * 2 ** 30 + 1)
        self.assert_glass("g turn 270 shift 0.00000004 q", 0, angles, angle=3 * 2 ** 30 + 1)
        self.assert_glass("g turn 270 shift 0.00000003 q", 0, angles, angle=3 * 2 ** 30)
        self.assert_glass("g turn 270 shift -0.000000050001 q", 0, angles, angle=3 * 2 ** 30 - 1)
        self.assert_glass("z turn 270 shift 0.00000005 q shift 0.00000005 q", 0, angles, angle=3 * 2 ** 30 + 1)

    def test_a_sums_shifts_are_cut_once(self):
        over = GLASS + "angle q 90 0\nwave w z turn 270 shift 0.00000005 q\nwave x z shift 0.00000003 q\n"
        for words, angle in (("w + 11 glass", 0), ("w + x + 10 glass", 0), ("w + 2 x + 9 glass", 1),
                             ("w - 2 x + 9 glass", -1), ("w - x + 10 glass", 0)):
            factor = 2 ** (30 + int(words.split()[-2]))
            wanted = Fraction(999999 * factor * nearest_cosine((angle - 2 ** 30) % TURN), 2 ** 60)
            self.assert_heights(over + f"sum v {words}\n", "level 0\nwave v 99.9999 0\n", {0: rounded(wanted)})

    def test_factors(self):
        angles = "angle q 90 0\nangle g 10 0\n"
        value = nearest_cosine(119304647)
        for number, units in (("0.000000000465", 0), ("0.000000000466", 1), ("-0.000000000465", 0),
                              ("-0.000000000466", -1), ("0.25", 2 ** 28), ("-0.999999999999", -2 ** 30)):
            self.assert_glass(f"z factor {number} z", 0, angles, factor=2 ** 30 + units)
        for number in ("0.5", "-0.5", "0.123456789012", "-0.999999999"):
            exact = SecondSky(angles + f"wave w q factor {number} g\n").factor("w", 0)
            self.assertLess(abs(exact - 2 ** 30 - float(number) * value), 1)
            self.assert_glass(f"z factor {number} g", 0, angles, factor=exact)


class Refusals(TextCase):

    def test_minutes(self):
        inside = (FIRST_MINUTE, FIRST_MINUTE + 1, -1, 0, 1, LAST_MINUTE - 1, LAST_MINUTE)
        outside = (-2 ** 32, FIRST_MINUTE - 2, FIRST_MINUTE - 1, LAST_MINUTE + 1, LAST_MINUTE + 2, 2 ** 32 - 1)
        told = tell(sky(""), port("level 7\n"), *[height(minute) for minute in inside + outside])[2:]
        self.assertEqual(told, [[0, 70000]] * len(inside) + [[-1]] * len(outside))

    def test_no_port_before_all_else(self):
        for minute in (0, LAST_MINUTE + 1, FIRST_MINUTE - 1, 2 ** 32 - 1):
            self.assertEqual(tell(height(minute)), [[-3]])
            self.assertEqual(tell(sky(SKY), height(minute)), [[0], [-3]])
            self.assertEqual(tell(sky(SKY), port(PORT), sky(SKY), height(minute))[3], [-3])
            self.assertEqual(tell(sky(SKY), port("level"), height(minute))[2], [-3])
