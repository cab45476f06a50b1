"""The calls print, size and wave: what is told of a port."""

from tests.helper import PORT, PRINT, SIZE, SKY, TextCase, port, printed, sky, tell, wave


def told(text, *calls):
    """The answers behind a right sky and this right port."""
    answers = tell(sky(SKY), port(text), *calls)
    if answers[:2] != [[0], [0]]:
        raise AssertionError(answers)
    return answers[2:]


def print_of(text):
    return printed(told(text, PRINT)[0])


class Printed(TextCase):

    def test_ordinary(self):
        self.assertEqual(print_of(PORT), "level 1.25\nwave M6 0.5 359.999\nwave M2 1 0\nwave K1 99.9999 10.5\n")

    def test_answer_has_its_length(self):
        self.assertEqual(told("level 0.50\n", PRINT), [[0, 10, 108, 101, 118, 101, 108, 32, 48, 46, 53, 10]])

    def test_levels(self):
        for level, wanted in (("0", "0"), ("00", "0"), ("-0", "0"), ("-00.0000", "0"), ("0.0", "0"), ("05", "5"),
                              ("10", "10"), ("-10", "-10"), ("20.0", "20"), ("00.50", "0.5"), ("-00.0500", "-0.05"),
                              ("0.0001", "0.0001"), ("-0.0001", "-0.0001"), ("99.9999", "99.9999"),
                              ("-99.9990", "-99.999"), ("10.0100", "10.01"), ("-01.0", "-1")):
            self.assertEqual(print_of(f"level {level}\n"), f"level {wanted}\n")

    def test_sizes(self):
        for size, wanted in (("0", "0"), ("00.0000", "0"), ("01", "1"), ("10", "10"), ("0.1000", "0.1"),
                             ("0.0001", "0.0001"), ("99.9999", "99.9999"), ("50.0500", "50.05")):
            self.assertEqual(print_of(f"level 0\nwave M2 {size} 0\n"), f"level 0\nwave M2 {wanted} 0\n")

    def test_lags(self):
        for lag, wanted in (("0", "0"), ("000.000", "0"), ("007", "7"), ("100", "100"), ("010.010", "10.01"),
                            ("0.001", "0.001"), ("359.999", "359.999"), ("90.0", "90"), ("00.5", "0.5")):
            self.assertEqual(print_of(f"level 0\nwave M2 0 {lag}\n"), f"level 0\nwave M2 0 {wanted}\n")

    def test_waves_stay_in_their_order(self):
        for names in (("M2", "S2", "M6"), ("M6", "S2", "M2"), ("S2", "MS4", "K1", "M6", "M2")):
            text = "level 0\n" + "".join(f"wave {name} 1 1\n" for name in names)
            self.assertEqual(print_of(text), text)

    def test_printed_is_right_prints_itself_and_tells_the_same(self):
        calls = [SIZE] + [wave(index) for index in range(7)]
        for text in (PORT, "level -00.0000\n", "level -99.9999\nwave K1 00.0100 000.100\nwave MS4 00 00\n",
                     "level -07.50\n" + "".join(f"wave {name} 01.10 020.0\n" for name in ("K1", "M6", "S2", "MS4"))):
            first = told(text, PRINT, *calls)
            again = told(printed(first[0]), PRINT, *calls)
            self.assertEqual(first, again)

    def test_no_port(self):
        self.assertEqual(tell(PRINT), [[-3]])
        self.assertEqual(tell(sky(SKY), PRINT), [[0], [-3]])


class Sizes(TextCase):

    def test_ordinary(self):
        self.assertEqual(told(PORT, SIZE), [[0, 3, 12500]])

    def test_levels(self):
        for level, wanted in (("0", 0), ("-0", 0), ("-0.0", 0), ("1", 10000), ("-1", -10000), ("0.0001", 1),
                              ("-0.0001", -1), ("99.9999", 999999), ("-99.9999", -999999), ("1.5", 15000),
                              ("-1.05", -10500), ("01.005", 10050)):
            self.assertEqual(told(f"level {level}\n", SIZE), [[0, 0, wanted]])

    def test_no_port(self):
        self.assertEqual(tell(SIZE), [[-3]])
        self.assertEqual(tell(sky(""), SIZE), [[0], [-3]])


class Waves(TextCase):

    def test_ordinary(self):
        self.assertEqual(told(PORT, wave(0), wave(1), wave(2)),
                         [[0, 4, 5000, 359999], [0, 0, 10000, 0], [0, 2, 999999, 10500]])

    def test_sizes(self):
        for size, wanted in (("0", 0), ("1", 10000), ("0.0001", 1), ("0.1", 1000), ("00.0100", 100), ("99.9999", 999999)):
            self.assertEqual(told(f"level 0\nwave M2 {size} 0\n", wave(0)), [[0, 0, wanted, 0]])

    def test_lags(self):
        for lag, wanted in (("0", 0), ("1", 1000), ("0.001", 1), ("0.1", 100), ("359.999", 359999), ("010.01", 10010)):
            self.assertEqual(told(f"level 0\nwave S2 0 {lag}\n", wave(0)), [[0, 1, 0, wanted]])

    def test_numbers_count_waves_and_sums_together_and_no_angles(self):
        over = "angle s 0 0\nwave a s\nsum b a\nangle h 0 0\nwave c h\nsum d c\n"
        text = "level 0\nwave d 0 0\nwave c 0 0\nwave b 0 0\nwave a 0 0\n"
        numbers = [answer[1] for answer in tell(sky(over), port(text), *[wave(index) for index in range(4)])[2:]]
        self.assertEqual(numbers, [3, 2, 1, 0])

    def test_last_number(self):
        over = "angle s 0 0\n" + "".join(f"wave w{number} s\n" for number in range(128))
        text = "level 0\n" + "".join(f"wave w{127 - number} 0 {number}\n" for number in range(128))
        told_last = tell(sky(over), port(text), SIZE, wave(0), wave(127), wave(128))[2:]
        self.assertEqual(told_last, [[0, 128, 0], [0, 127, 0, 0], [0, 0, 0, 127000], [-4]])

    def test_no_such_wave(self):
        for index in (3, 4, 128, 2 ** 31, 2 ** 32 - 1):
            self.assertEqual(told(PORT, wave(index)), [[-4]])
        self.assertEqual(told("level 0\n", wave(0)), [[-4]])

    def test_no_port_is_told_before_no_such_wave(self):
        for index in (0, 1, 2 ** 32 - 1):
            self.assertEqual(tell(wave(index)), [[-3]])
            self.assertEqual(tell(sky(SKY), wave(index)), [[0], [-3]])
