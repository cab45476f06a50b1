"""The call sky: right texts, and each kind of fault with its place."""

from tests.helper import SKY, TextCase, port, sky, tell


def angles(count):
    return "".join(f"angle a{number} 0 0\n" for number in range(count))


def terms(count, name="s"):
    return " + ".join([name] * count)


class RightSkies(TextCase):

    def test_ordinary(self):
        self.assert_sky(SKY)

    def test_empty(self):
        self.assert_sky("")

    def test_one_line(self):
        self.assert_sky("angle s 0 0\n")

    def test_names_like_words(self):
        self.assert_sky("angle turn 1 2\nangle factor 1 2\nangle shift 1 2\nangle angle 1 2\n"
                        "wave wave turn turn 90 factor 0.1 factor shift 3 shift + turn\n"
                        "wave sum - factor + shift factor 0 turn + turn factor 0 shift shift 0 factor\n"
                        "sum level wave + sum\n")

    def test_numbers_may_have_0_in_front_and_a_sign(self):
        for number in ("0", "00", "000", "-0", "-000.000000000000", "007.5", "999.999999999999", "-999", "0.1"):
            self.assert_sky(f"angle s {number} 1\nangle h 1 {number}\nwave a s shift {number} h\n")

    def test_counts_of_a_waves_sums_go_together_beyond_12(self):
        self.assert_sky("angle s 0 0\nwave a 15 s + 15 s factor 0 15 s shift 0 15 s\n")

    def test_a_sum_may_have_a_name_twice(self):
        self.assert_sky("angle s 0 0\nwave a s - s\nsum b a - a\n")


class SkyGrammar(TextCase):

    def test_cut_off_anywhere(self):
        self.assert_cuts(SKY, self.assert_sky, empty_is_right=True)

    def test_first_and_last_place(self):
        self.assert_sky("x" + SKY, 1, 0)
        self.assert_sky(SKY + "x", 1, len(SKY))
        self.assert_sky(SKY[:-1], 1, len(SKY) - 1)
        self.assert_sky(SKY[:-1] + " ", 1, len(SKY))
        self.assert_sky(SKY[:-1] + "x" * 7 + "\n", 1, len(SKY) - 1 + 5)

    def test_bytes_that_no_text_has(self):
        for code in list(range(10)) + list(range(11, 32)) + [33, 63, 91, 95, 96, 123] + list(range(127, 256)):
            for place in (0, 3, 6, 7, 8, 9, 11):
                text = bytearray(b"angle s 0 0\n")
                text[place] = code
                self.assert_sky(bytes(text), 1, place)
            self.assert_sky(SKY.encode() + bytes([code]), 1, len(SKY))

    def test_lines(self):
        self.assert_sky("\n", 1, 0)
        self.assert_sky(" ", 1, 0)
        self.assert_sky("angle s 0 0\n\n", 1, 12)
        self.assert_sky("angle s 0 0\r\n", 1, 11)
        self.assert_sky("angle s 0 0 \n", 1, 11)
        self.assert_sky(" angle s 0 0\n", 1, 0)
        self.assert_sky("angle  s 0 0\n", 1, 6)
        self.assert_sky("angle s  0 0\n", 1, 8)
        self.assert_sky("angle\ts 0 0\n", 1, 5)
        self.assert_sky("angles 0 0\n", 1, 5)
        self.assert_sky("Angle s 0 0\n", 1, 0)
        self.assert_sky("anglE s 0 0\n", 1, 4)
        self.assert_sky("angle s 0\n", 1, 9)
        self.assert_sky("angle s 0 0 0\n", 1, 11)
        self.assert_sky("shift s\n", 1, 1)
        self.assert_sky("level 0\n", 1, 0)
        self.assert_sky("wave a\n", 1, 6)
        self.assert_sky("sum a \n", 1, 6)
        self.assert_sky("suma b\n", 1, 3)

    def test_names(self):
        self.assert_sky("angle Abcdef7 0 0\n")
        self.assert_sky("angle Abcdef78 0 0\n", 1, 13)
        self.assert_sky("angle Z 0 0\nangle z 0 0\nangle A 0 0\nangle a 0 0\n")
        self.assert_sky("angle 7a 0 0\n", 1, 6)
        self.assert_sky("angle a_b 0 0\n", 1, 7)
        self.assert_sky("angle  0 0\n", 1, 6)
        self.assert_sky("angle s 0 0\nwave a abcdefgh\n", 1, 26)

    def test_numbers(self):
        for number, at in (("", 0), (".5", 0), ("+1", 0), ("1.", 2), ("-", 1), ("--1", 1), ("1234", 3), ("-1234", 4),
                           ("0001", 3), ("1..5", 2), ("1.5.5", 3), ("1,5", 1), ("1e5", 1), ("-.5", 1),
                           ("1.1234567890123", 14), ("123.1234567890123", 16)):
            self.assert_sky(f"angle s {number} 0\n", 1, 8 + at)
            self.assert_sky(f"angle s 0 {number}\n", 1, 10 + at)
            self.assert_sky(f"wave a s factor {number} s\n", 1, 16 + at)
            self.assert_sky(f"wave a s shift {number} s\n", 1, 15 + at)
        self.assert_sky("angle s 123.123456789012 -123.123456789012\n")

    def test_counts(self):
        for count in range(1, 16):
            self.assert_sky(f"angle s 0 0\nwave a {count} s - {count} s\n")
        for count, at in (("0", 0), ("16", 1), ("19", 1), ("20", 1), ("99", 1), ("01", 0), ("100", 2), ("150", 2),
                          ("1.0", 1), ("1s", 1), ("1  s", 2), ("1 1", 2)):
            self.assert_sky(f"wave a {count} s\n", 1, 7 + at)
            self.assert_sky(f"sum a {count} s\n", 1, 6 + at)
            self.assert_sky(f"wave a s - {count} s\n", 1, 11 + at)

    def test_signs_of_sums(self):
        self.assert_sky("angle s 0 0\nwave a - s + s - s\n")
        for terms_at_fault, at in (("+ s", 0), ("-s", 1), ("- - s", 2), ("s h", 2), ("s +s", 3), ("s+ s", 1),
                                   ("s + - s", 4), ("s +", 3), ("s + \n", 4), ("s * s", 2), ("s  + s", 2)):
            self.assert_sky(f"wave a {terms_at_fault}\n", 1, 7 + at)
            self.assert_sky(f"sum a {terms_at_fault}\n", 1, 6 + at)
            self.assert_sky(f"wave a s shift 1 {terms_at_fault}\n", 1, 17 + at)

    def test_words_that_begin_like_a_right_one(self):
        self.assert_sky("wave a s s\n", 1, 10)
        self.assert_sky("sum a s s\n", 1, 8)
        self.assert_sky("wave a s tur 90\n", 1, 12)
        self.assert_sky("wave a s turns 90\n", 1, 13)

    def test_turns(self):
        for turn in ("90", "180", "270"):
            self.assert_sky(f"angle s 0 0\nwave a s turn {turn}\n")
            self.assert_sky(f"angle s 0 0\nwave a s turn {turn} factor 0 s shift 0 s\n")
        for turn, at in (("0", 0), ("91", 1), ("900", 2), ("090", 0), ("360", 0), ("18", 2), ("181", 2), ("170", 1),
                         ("1800", 3), ("27", 2), ("280", 1), ("-90", 0), ("90.0", 2), ("90 turn 90", 3),
                         ("90 + s", 3), ("90 - s", 3), ("90 s", 4)):
            self.assert_sky(f"wave a s turn {turn}\n", 1, 14 + at)
        self.assert_sky("sum a s turn 90\n", 1, 8)
        self.assert_sky("sum a s factor 0 s\n", 1, 8)

    def test_order_of_a_waves_parts(self):
        self.assert_sky("wave a s factor 0 s turn 90\n", 1, 20)
        self.assert_sky("wave a s shift 0 s turn 90\n", 1, 19)
        self.assert_sky("wave a s shift 0 s factor 0 s\n", 1, 19)
        self.assert_sky("wave a s shift 0\n", 1, 16)
        self.assert_sky("wave a s factor 0 \n", 1, 18)
        self.assert_sky("wave a s factor s\n", 1, 16)
        self.assert_sky("wave a s fact 0 s\n", 1, 13)

    def test_nothing_but_the_grammar_is_told_first(self):
        self.assert_sky("sum a 13 b\nsum a a\nx", 1, 19)


class SkyGrammarLimits(TextCase):

    head = "angle s 0 0\nwave w s\n"

    def assert_too_long(self, line, at):
        self.assert_sky(self.head + line, 1, len(self.head) + at)

    def test_eight_terms_of_a_sum(self):
        line = "sum a " + terms(8, "w")
        self.assert_sky(self.head + line + "\n")
        for more in (" + w", " - w", " ", " turn 90", " x"):
            self.assert_too_long(line + more + "\n", len(line))
        self.assert_too_long(line + "x" * 7 + "\n", len(line) + 6)

    def test_eight_terms_of_a_wave(self):
        line = "wave a " + terms(8)
        self.assert_sky(self.head + line + "\n")
        for more in (" turn 90", " factor 0 s", " shift 0 s", " turn 90 factor 0 s shift 0 s"):
            self.assert_sky(self.head + line + more + "\n")
        for more in (" + s", " - s", " \n", " x"):
            self.assert_too_long(line + more + "\n", len(line) + 1)

    def test_eight_terms_of_a_factor(self):
        line = "wave a s factor 0 " + terms(8)
        self.assert_sky(self.head + line + "\n")
        self.assert_sky(self.head + line + " factor 0 s\n")
        self.assert_sky(self.head + line + " shift 0 s\n")
        self.assert_too_long(line + " + s\n", len(line) + 1)
        self.assert_too_long(line + " turn 90\n", len(line) + 1)

    def test_eight_terms_of_a_shift(self):
        line = "wave a s shift 0 " + terms(8)
        self.assert_sky(self.head + line + "\n")
        self.assert_sky(self.head + line + " shift 0 s\n")
        self.assert_too_long(line + " - s\n", len(line) + 1)
        self.assert_too_long(line + " factor 0 s\n", len(line) + 1)

    def test_a_minus_in_front_is_no_term(self):
        self.assert_sky(self.head + "wave a - " + terms(8) + "\n")
        line = "sum a - " + terms(8, "w")
        self.assert_too_long(line + " + w\n", len(line))

    def test_eight_factors(self):
        line = "wave a s" + " factor 0 s" * 8
        self.assert_sky(self.head + line + "\n")
        self.assert_sky(self.head + line + " + s shift 0 s\n")
        self.assert_too_long(line + " factor 0 s\n", len(line) + 1)

    def test_eight_shifts(self):
        line = "wave a s" + " shift 0 s" * 8
        self.assert_sky(self.head + line + "\n")
        self.assert_sky(self.head + line + " + s\n")
        self.assert_too_long(line + " shift 0 s\n", len(line) + 1)

    def test_eight_of_each(self):
        line = "wave a s turn 90" + " factor 0 s" * 8 + " shift 0 s" * 8
        self.assert_sky(self.head + line + "\n")
        self.assert_too_long(line + " factor 0 s\n", len(line) + 1)

    def test_eighth_factor_of_eight_terms(self):
        line = "wave a s" + " factor 0 s" * 7 + " factor 0 " + terms(8)
        self.assert_sky(self.head + line + "\n")
        self.assert_sky(self.head + line + " shift 0 s\n")
        self.assert_too_long(line + " factor 0 s\n", len(line) + 1)
        self.assert_too_long(line + " + s\n", len(line) + 1)

    def test_eighth_shift_of_eight_terms(self):
        line = "wave a s" + " shift 0 s" * 7 + " shift 0 " + terms(8)
        self.assert_sky(self.head + line + "\n")
        for more in (" shift 0 s", " + s", " - s", " ", " factor 0 s"):
            self.assert_too_long(line + more + "\n", len(line))

    def test_all_eight(self):
        line = ("wave a " + terms(8) + " turn 270" + (" factor 0 " + terms(8)) * 8 + (" shift 0 " + terms(8)) * 8)
        self.assert_sky(self.head + line + "\n")
        self.assert_too_long(line + " + s\n", len(line))


class SkyNames(TextCase):
    """Kinds 2 and 3."""

    def test_name_twice_first_place(self):
        self.assert_sky("angle a 0 0\nsum a a\n", 2, 16)

    def test_name_twice_last_place(self):
        self.assert_sky(SKY + "sum M6 M2\n", 2, len(SKY) + 4)
        self.assert_sky(SKY + "wave s s\n", 2, len(SKY) + 5)
        self.assert_sky(SKY + "angle M2 0 0\n", 2, len(SKY) + 6)

    def test_name_twice_of_each_sort(self):
        head = "angle s 0 0\nwave w s\nsum v w\n"
        for name in "swv":
            self.assert_sky(head + f"angle {name} 0 0\n", 2, len(head) + 6)
            self.assert_sky(head + f"wave {name} s\n", 2, len(head) + 5)
            self.assert_sky(head + f"sum {name} w\n", 2, len(head) + 4)
            self.assert_sky(head + f"sum {name.upper()} w\n")

    def test_name_not_there_first_place(self):
        self.assert_sky("sum a b\n", 3, 6)
        self.assert_sky("wave a b\n", 3, 7)

    def test_name_not_there_is_told_behind_its_count(self):
        self.assert_sky("sum a - 12 b\n", 3, 11)
        self.assert_sky("wave a 15 b\n", 3, 10)

    def test_name_not_there_last_place(self):
        line = SKY + "sum a 2 M2 - K1 + x"
        self.assert_sky(line + "\n", 3, len(line) - 1)
        line = SKY + "wave a s factor 0.1 h shift 1 s shift 1 s - 2 x"
        self.assert_sky(line + "\n", 3, len(line) - 1)

    def test_name_not_there_in_each_sum_of_a_wave(self):
        words = "s + s turn 90 factor 0 s - s factor 0 s shift 0 s - s shift 0 s".split(" ")
        for number, word in enumerate(words):
            if word == "s":
                head = "angle s 0 0\nwave a " + " ".join(words[:number] + [""])
                tail = " ".join(["S"] + words[number + 1:])
                self.assert_sky(head + tail + "\n", 3, len(head))

    def test_the_first_of_several(self):
        self.assert_sky("angle s 0 0\nwave a s factor 0 y shift 0 z\n", 3, 30)
        self.assert_sky("angle s 0 0\nwave a s + x factor 0 y\n", 3, 23)

    def test_of_another_sort(self):
        head = "angle s 0 0\nwave w s\nsum v w\n"
        self.assert_sky(head + "wave a w\n", 3, len(head) + 7)
        self.assert_sky(head + "wave a v\n", 3, len(head) + 7)
        self.assert_sky(head + "wave a s factor 0 w\n", 3, len(head) + 18)
        self.assert_sky(head + "wave a s shift 0 w\n", 3, len(head) + 17)
        self.assert_sky(head + "sum a s\n", 3, len(head) + 6)
        self.assert_sky(head + "sum a v\n", 3, len(head) + 6)
        self.assert_sky(head + "sum a w + v\n", 3, len(head) + 10)

    def test_of_its_own_or_a_later_line(self):
        self.assert_sky("wave a s\nangle s 0 0\n", 3, 7)
        self.assert_sky("angle s 0 0\nsum b a\nwave a s\n", 3, 18)
        self.assert_sky("angle s 0 0\nwave a a\n", 3, 19)
        self.assert_sky("angle s 0 0\nwave a s\nsum b b\n", 3, 27)


class SkyLimits(TextCase):
    """Kinds 4 and 5."""

    def test_angles(self):
        head = angles(16)
        self.assert_sky(head)
        self.assert_sky(head + "angle b 0 0\n", 4, len(head) + 6)
        self.assert_sky(head + "wave b a15\nangle c 0 0\n", 4, len(head) + 17)
        self.assert_sky(head + "wave b a15\nsum c b\n")

    def test_waves(self):
        head = "angle s 0 0\n" + "".join(f"wave w{number} s\n" for number in range(128))
        self.assert_sky(head)
        self.assert_sky(head + "wave b s\n", 4, len(head) + 5)
        self.assert_sky(head + "sum b w0\n", 4, len(head) + 4)
        self.assert_sky(head + "angle b 0 0\n")

    def test_sums(self):
        head = "angle s 0 0\nwave w s\n" + "".join(f"sum w{number} w\n" for number in range(127))
        self.assert_sky(head)
        self.assert_sky(head + "wave b s\n", 4, len(head) + 5)
        self.assert_sky(head + "sum b w\n", 4, len(head) + 4)

    def test_waves_and_sums_count_together(self):
        head = "angle s 0 0\n" + "".join(f"wave w{number} s\nsum v{number} w{number}\n" for number in range(64))
        self.assert_sky(head + angles(15))
        self.assert_sky(head + angles(16), 4, len(head) + len(angles(15)) + 6)
        self.assert_sky(head + "sum b w0\n", 4, len(head) + 4)

    def test_factors(self):
        head = "angle s 0 0\nwave w s"
        for numbers in (("0.999999999999",), ("-0.999999999999",), ("0.5", "-0.499999999999"), ("0.125",) * 7,
                        ("000.5", "0.4"), ("0", "0")):
            self.assert_sky(head + "".join(f" factor {number} s" for number in numbers) + "\n")
        for numbers in (("1",), ("-1",), ("0.5", "0.5"), ("0.5", "-0.5"), ("-0.5", "-0.5"), ("0.125",) * 8,
                        ("0.999999999999", "0.000000000001"), ("999.999999999999",), ("0", "0", "0", "0", "1.0")):
            self.assert_sky(head + "".join(f" factor {number} s" for number in numbers) + "\n", 5, 17)

    def test_shifts_are_no_factors(self):
        self.assert_sky("angle s 0 0\nwave w s factor 0.9 s shift 0.1 s shift 999 s\n")

    def test_counts_of_a_sum(self):
        head = "angle s 0 0\nwave w s\n"
        for words in ("12 w", "- 12 w", "6 w - 6 w", "5 w + 7 w", "11 w + w", "w - w + w - w + 8 w", "w"):
            self.assert_sky(head + f"sum a {words}\n")
        for words in ("13 w", "15 w", "- 13 w", "12 w - w", "6 w - 7 w", "15 w - 15 w", "w - w + w - w + 9 w"):
            self.assert_sky(head + f"sum a {words}\n", 5, len(head) + 4)

    def test_first_and_last_place(self):
        self.assert_sky("sum a 13 b\n", 5, 4)
        self.assert_sky("wave a b factor 1 c\n", 5, 5)
        self.assert_sky(SKY + "sum b 13 M2\n", 5, len(SKY) + 4)
        self.assert_sky(SKY + "wave b s factor -1 s\n", 5, len(SKY) + 5)


class SeveralFaults(TextCase):

    def test_the_lesser_kind_at_one_place(self):
        head = angles(16)
        self.assert_sky(head + "angle a3 0 0\n", 2, len(head) + 6)
        self.assert_sky("angle s 0 0\nwave s s factor 1 s\n", 2, 17)
        self.assert_sky("angle s 0 0\nwave w s\nsum w 13 w\n", 2, 25)
        head = "angle s 0 0\n" + "".join(f"wave w{number} s\n" for number in range(128))
        self.assert_sky(head + "wave w7 s factor 1 s\n", 2, len(head) + 5)
        self.assert_sky(head + "wave b s factor 1 s\n", 4, len(head) + 5)
        self.assert_sky(head + "sum b 13 w0\n", 4, len(head) + 4)

    def test_the_first_place(self):
        self.assert_sky("angle s 0 0\nwave a x\nangle s 0 0\n", 3, 19)
        self.assert_sky("angle s 0 0\nangle s 0 0\nwave a x\n", 2, 18)
        self.assert_sky("angle s 0 0\nwave a x factor 1 s\n", 5, 17)
        self.assert_sky("angle s 0 0\nwave a x\nwave b s factor 1 s\n", 3, 19)
        self.assert_sky("angle s 0 0\nwave s x\n", 2, 17)

    def test_grammar_before_all_else(self):
        text = "angle s 0 0\nangle s 0 0\nwave a x factor 1 y\n"
        self.assert_sky(text + "!", 1, len(text))
        self.assert_sky(text[:-1], 1, len(text) - 1)
        self.assert_sky(text + "sum b 16 a\nangle ! 0 0\n", 1, len(text) + 7)


class SkyKept(TextCase):

    def test_refused_sky_changes_nothing(self):
        wanted = [[0], [0], [-6, 3, 6], [0]]
        self.assertEqual(tell(sky(SKY), port("level 0\n"), sky("sum a b\n"), port("level 0\nwave M6 1 1\n")), wanted)

    def test_new_sky_takes_the_place_of_the_old(self):
        told = tell(sky(SKY), sky("angle s 0 0\nwave x s\n"), port("level 0\nwave M2 1 1\n"),
                    port("level 0\nwave x 1 1\n"))
        self.assertEqual(told, [[0], [0], [-5, 3, 13], [0]])
