"""Many drawn skies and ports: heights against a second reckoning in exact fractions, and what is promised of them."""

from fractions import Fraction

from tests.helper import (Drawer, FIRST_MINUTE, LAST_MINUTE, PORT, PRINT, SKY, SecondPort, TextCase, first, height,
                          heights, most, nearest_cosine, plain_decimal, port, printed, sky, tell)


def told(over, text, *calls):
    """The answers behind a right sky and a right port."""
    answers = tell(sky(over), port(text), *calls)
    if answers[:2] != [[0], [0]]:
        raise AssertionError((answers[:2], over, text))
    return answers[2:]


def told_heights(over, text, minutes):
    return [answer[1] for answer in told(over, text, *[height(minute) for minute in minutes])]


def under_glass(drawer):
    """A drawn sky with sums whose factors are so large that a unit of an angle's cosine is seen in their heights."""
    over = "angle z 0 0\n"
    angles = [f"a{number}" for number in range(3)]
    for name in angles:
        over += f"angle {name} {drawer.number(10 ** 15 - 1, 12)} {drawer.number(10 ** 15 - 1, 12)}\n"
    over += "wave glass z factor 0.999999999999 z\n"
    for name in ("w0", "w1"):
        over += f"wave {name} {drawer.wave(angles)}\n"
    over += "sum s0 w0 + 11 glass\nsum s1 - 2 w1 + 10 glass\nsum s2 w0 - w1 + 10 glass\n"
    return over


class SecondReckoning(TextCase):

    def test_second_reckoning_itself(self):
        self.assertEqual([nearest_cosine(angle) for angle in (0, 2 ** 29, 2 ** 30, 2 ** 31)],
                         [2 ** 30, 759250125, 0, -2 ** 30])
        over = "angle s 30 60\nangle q 90 0\nwave w 2 s turn 90 factor 0.5 q - q shift 30 q\nsum v w - w\n"
        second = SecondPort(over, "level -1\nwave w 2 30\nwave v 0.01 0\n")
        self.assertEqual([second.height(minute) - 225 for minute in (-30, 0, 15, 60, 105)],
                         [-10000, -35981, -40000, -10000, 20000])

    def test_drawn_heights(self):
        drawer = Drawer(21)
        for each in range(250):
            over = drawer.sky()
            text = drawer.port(over)
            minutes = [drawer.minute() for each in range(5)]
            second = SecondPort(over, text)
            wanted = [second.height(minute) for minute in minutes]
            self.assertEqual(told_heights(over, text, minutes), wanted, (over, text, minutes))
            for minute, number in zip(minutes, wanted):
                self.assertLessEqual(abs(second.exact(minute) - number), Fraction(1, 2))

    def test_drawn_heights_under_the_glass(self):
        drawer = Drawer(22)
        for each in range(150):
            over = under_glass(drawer)
            minutes = [drawer.minute() for each in range(3)]
            for name in ("s0", "s1", "s2"):
                text = f"level 0\nwave {name} 99.9999 {drawer.number(359999, 3, False)}\n"
                second = SecondPort(over, text)
                wanted = [second.height(minute) for minute in minutes]
                self.assertEqual(told_heights(over, text, minutes), wanted, (over, text, minutes))

    def test_rows_of_a_full_sky(self):
        drawer = Drawer(23)
        over = "".join(f"angle a{number} {drawer.number(10 ** 15 - 1, 12)} {drawer.number(10 ** 15 - 1, 12)}\n"
                       for number in range(16))
        angles = [f"a{number}" for number in range(16)]
        waves = [f"w{number}" for number in range(64)]
        over += "".join(f"wave {name} {drawer.terms(angles, [1, 2])} factor 0.1 {drawer.terms(angles, [1])}\n"
                        for name in waves)
        over += "".join(f"sum s{number} {drawer.terms(waves, [2, 1])}\n" for number in range(64))
        text = "level 0\n" + "".join(f"wave {line.split()[1]} {drawer.number(999999, 4, False)} 12.345\n"
                                     for line in over.splitlines()[16:])
        second = SecondPort(over, text)
        self.assertEqual(len(second.waves), 128)
        answer = told(over, text, heights(32768 - 3, 6))[0]
        self.assertEqual(answer, [0, 6] + [second.height(minute) for minute in range(32765, 32771)])


class Promises(TextCase):

    def test_a_row_is_its_single_heights_in_any_pieces(self):
        drawer = Drawer(31)
        for each in range(60):
            over = drawer.sky(3)
            text = drawer.port(over)
            start = min(drawer.minute(), LAST_MINUTE - 23)
            cuts = sorted(drawer.chance.choices(range(25), k=3))
            pieces = [heights(start + a, b - a) for a, b in zip([0] + cuts, cuts + [24])]
            singles = told_heights(over, text, range(start, start + 24))
            answers = told(over, text, heights(start, 24), *pieces)
            self.assertEqual(answers[0], [0, 24] + singles)
            self.assertEqual([number for answer in answers[1:] for number in answer[2:]], singles)

    def test_most_and_first_are_those_of_the_single_heights(self):
        drawer = Drawer(32)
        for each in range(60):
            over = drawer.sky(3)
            text = drawer.port(over)
            count = drawer.chance.choice((1, 2, 5, 24))
            start = min(drawer.minute(), LAST_MINUTE - count + 1)
            singles = told_heights(over, text, range(start, start + count))
            bound = drawer.chance.choice(singles) + drawer.chance.choice((-1, 0, 0, 1))
            answers = told(over, text, most(start, count), first(start, count, bound, 1), first(start, count, bound, 0))
            low, high = min(singles), max(singles)
            self.assertEqual(answers[0], [0, low, start + singles.index(low), high, start + singles.index(high)])
            above = [start + step for step, number in enumerate(singles) if number >= bound]
            below = [start + step for step, number in enumerate(singles) if number <= bound]
            self.assertEqual(answers[1], [1, above[0]] if above else [0])
            self.assertEqual(answers[2], [1, below[0]] if below else [0])

    def test_waves_in_any_order_tell_the_same_heights(self):
        drawer = Drawer(33)
        for each in range(80):
            over = drawer.sky()
            level, *waves = drawer.port(over).splitlines(keepends=True)
            minutes = [drawer.minute() for each in range(4)]
            wanted = told_heights(over, level + "".join(waves), minutes)
            self.assertEqual(told_heights(over, level + "".join(reversed(waves)), minutes), wanted)
            drawer.chance.shuffle(waves)
            self.assertEqual(told_heights(over, level + "".join(waves), minutes), wanted)

    def test_a_higher_level_tells_heights_as_much_higher(self):
        drawer = Drawer(34)
        for each in range(80):
            over = drawer.sky()
            waves = drawer.port(over).split("\n", 1)[1]
            minutes = [drawer.minute() for each in range(4)]
            low, high = drawer.chance.randint(-999999, 999999), drawer.chance.randint(-999999, 999999)
            lower = told_heights(over, f"level {plain_decimal(low, 4)}\n" + waves, minutes)
            higher = told_heights(over, f"level {plain_decimal(high, 4)}\n" + waves, minutes)
            self.assertEqual([number + high - low for number in lower], higher)

    def test_a_level_moves_ties_as_much(self):
        over = "angle z 0 0\nwave u z factor 0.5 z\nwave d z turn 180 factor 0.5 z\n"
        for name, base in (("u", 2), ("d", -1)):
            for level in range(-5, 6):
                text = f"level {plain_decimal(level, 4)}\nwave {name} 0.0001 0\n"
                self.assertEqual(told_heights(over, text, [0, FIRST_MINUTE]), [base + level] * 2)

    def test_a_printed_port_tells_the_same_heights(self):
        drawer = Drawer(35)
        for each in range(40):
            over = drawer.sky()
            text = drawer.port(over)
            minutes = [drawer.minute() for each in range(3)]
            again = printed(told(over, text, PRINT)[0])
            self.assertEqual(told_heights(over, again, minutes), told_heights(over, text, minutes))

    def test_a_sky_and_a_port_of_every_part(self):
        second = SecondPort(SKY, PORT)
        self.assertEqual(told(SKY, PORT, heights(-10, 20))[0][2:], [second.height(minute) for minute in range(-10, 10)])
