"""The call port: right texts, and each kind of fault with its place."""

from tests.helper import PORT, SIZE, SKY, TextCase, port, sky, tell

ALL_WAVES = "angle s 0 0\n" + "".join(f"wave w{number} s\n" for number in range(128))


class RightPorts(TextCase):

    def test_ordinary(self):
        self.assert_port(PORT)

    def test_level_alone(self):
        for level in ("0", "-0", "00", "-00.0000", "99.9999", "-99.9999", "1.5", "01.05"):
            self.assert_port(f"level {level}\n")

    def test_over_an_empty_sky(self):
        self.assert_port("level 0\n", over="")

    def test_sizes_and_lags(self):
        for size in ("0", "00", "0.0000", "99.9999", "1.5", "07"):
            for lag in ("0", "000", "359.999", "359", "7.5", "007.50", "0.001"):
                self.assert_port(f"level 0\nwave M2 {size} {lag}\n")

    def test_all_waves_of_a_full_sky(self):
        self.assert_port("level 0\n" + "".join(f"wave w{number} 1 1\n" for number in range(128)), over=ALL_WAVES)

    def test_names_like_words(self):
        over = "angle s 0 0\nwave wave s\nwave level s\n"
        self.assert_port("level 0\nwave wave 1 1\nwave level 1 1\n", over=over)


class PortGrammar(TextCase):

    def test_empty(self):
        self.assert_port("", 1, 0)

    def test_cut_off_anywhere(self):
        self.assert_cuts(PORT, self.assert_port, empty_is_right=False)

    def test_first_and_last_place(self):
        self.assert_port("x" + PORT, 1, 0)
        self.assert_port(PORT + "x", 1, len(PORT))
        self.assert_port(PORT + "\n", 1, len(PORT))
        self.assert_port(PORT[:-1], 1, len(PORT) - 1)

    def test_bytes_that_no_text_has(self):
        for code in list(range(10)) + list(range(11, 32)) + [33, 47, 58, 63, 64] + list(range(127, 256)):
            for place in (0, 6, 7, 8, 13, 16, 18, 20):
                text = bytearray(b"level 0\nwave M2 1 1\n")
                if place < len(text):
                    text[place] = code
                else:
                    text.append(code)
                self.assert_port(bytes(text), 1, place)

    def test_levels(self):
        for level, at in (("", 0), ("+1", 0), ("--1", 1), ("-", 1), (".5", 0), ("-.5", 1), ("123", 2), ("-123", 3),
                          ("1.", 2), ("1.12345", 6), ("12.12345", 7), ("1,5", 1), ("1 ", 1), ("- 1", 1), ("1.5.", 3)):
            self.assert_port(f"level {level}\n", 1, 6 + at)

    def test_sizes(self):
        for size, at in (("", 0), ("-1", 0), ("+1", 0), (".5", 0), ("123", 2), ("1.", 2), ("1.12345", 6), ("1  ", 2)):
            self.assert_port(f"level 0\nwave M2 {size} 0\n", 1, 16 + at)

    def test_lags(self):
        for lag, at in (("", 0), ("-1", 0), (".5", 0), ("1234", 3), ("0001", 3), ("1.", 2), ("1.1234", 5), ("1 ", 1),
                        ("360.1234", 7)):
            self.assert_port(f"level 0\nwave M2 0 {lag}\n", 1, 18 + at)

    def test_lines(self):
        self.assert_port("\n", 1, 0)
        self.assert_port("level  0\n", 1, 6)
        self.assert_port("level 0\r\n", 1, 7)
        self.assert_port("level 0\nlevel 0\n", 1, 8)
        self.assert_port("wave M2 1 1\nlevel 0\n", 1, 0)
        self.assert_port("level 0\n\nwave M2 1 1\n", 1, 8)
        self.assert_port("level 0\nwave  M2 1 1\n", 1, 13)
        self.assert_port("level 0\nwave M2 1\n", 1, 17)
        self.assert_port("level 0\nwave M2 1 1 1\n", 1, 19)
        self.assert_port("level 0\nsum MS4 1 1\n", 1, 8)
        self.assert_port("level 0\nWave M2 1 1\n", 1, 8)

    def test_names(self):
        self.assert_port("level 0\nwave 2M 1 1\n", 1, 13)
        self.assert_port("level 0\nwave Abcdefgh 1 1\n", 1, 20)
        self.assert_port("level 0\nwave Abcdefg 1 1\n", over="angle s 0 0\nwave Abcdefg s\n")

    def test_grammar_before_all_else(self):
        text = "level 0\nwave x 1 400\nwave M2 1 1\nwave M2 1 1\n"
        self.assert_port(text + " ", 1, len(text))
        self.assert_port(text[:-1], 1, len(text) - 1)


class PortFaults(TextCase):
    """Kinds 2 to 4, and which of several is told."""

    def test_name_twice(self):
        self.assert_port("level 0\nwave M2 1 1\nwave M2 2 2\n", 2, 25)
        self.assert_port(PORT + "wave S2 1 1\nwave M6 1 1\n", 2, len(PORT) + 17)

    def test_name_twice_over_a_full_sky(self):
        text = "level 0\n" + "".join(f"wave w{number} 1 1\n" for number in range(128))
        self.assert_port(text + "wave w0 1 1\n", 2, len(text) + 5, over=ALL_WAVES)

    def test_name_not_there(self):
        self.assert_port("level 0\nwave x 1 1\n", 3, 13)
        self.assert_port("level 0\nwave m2 1 1\n", 3, 13)
        self.assert_port(PORT + "wave S3 1 1\n", 3, len(PORT) + 5)
        self.assert_port("level 0\nwave M2 1 1\n", 3, 13, over="")

    def test_an_angle_is_no_wave(self):
        self.assert_port("level 0\nwave s 1 1\n", 3, 13)

    def test_lags(self):
        for lag in ("360", "360.0", "360.000", "360.001", "361", "400", "999.999"):
            self.assert_port(f"level 0\nwave M2 1 {lag}\n", 4, 18)
            self.assert_port(PORT + f"wave S2 0.5 {lag}\n", 4, len(PORT) + 12)

    def test_the_first_place(self):
        self.assert_port("level 0\nwave M2 1 360\nwave x 1 1\n", 4, 18)
        self.assert_port("level 0\nwave x 1 360\nwave x 1 1\n", 3, 13)
        self.assert_port("level 0\nwave M2 1 1\nwave M2 1 360\n", 2, 25)
        self.assert_port("level 0\nwave M2 1 1\nwave S2 1 360\nwave M2 1 1\n", 4, 30)
        self.assert_port("level 0\nwave M2 1 360\nwave M2 1 1\n", 4, 18)

    def test_an_earlier_line_counts_even_if_its_name_is_not_there(self):
        self.assert_port("level 0\nwave x 1 1\nwave x 1 1\n", 3, 13)


class PortCalls(TextCase):

    def test_no_sky(self):
        self.assertEqual(tell(port(PORT)), [[-3]])
        self.assertEqual(tell(port("")), [[-3]])
        self.assertEqual(tell(port("x"), sky("x"), port("level 0\n")), [[-3], [-6, 1, 0], [-3]])

    def test_new_sky_takes_the_port_away(self):
        self.assertEqual(tell(sky(SKY), port(PORT), sky(SKY), SIZE), [[0], [0], [0], [-3]])

    def test_refused_sky_leaves_the_port(self):
        self.assertEqual(tell(sky(SKY), port(PORT), sky("x"), SIZE), [[0], [0], [-6, 1, 0], [0, 3, 12500]])

    def test_refused_port_leaves_the_port(self):
        for text, fault in (("", [1, 0]), ("level 7\nwave x 1 1\n", [3, 13]), ("level 7\nwave M2 1 360\n", [4, 18])):
            self.assertEqual(tell(sky(SKY), port(PORT), port(text), SIZE), [[0], [0], [-5] + fault, [0, 3, 12500]])

    def test_refused_port_is_no_port(self):
        self.assertEqual(tell(sky(SKY), port(""), SIZE), [[0], [-5, 1, 0], [-3]])

    def test_new_port_takes_the_place_of_the_old(self):
        self.assertEqual(tell(sky(SKY), port(PORT), port("level -1\n"), SIZE), [[0], [0], [0], [0, 0, -10000]])
