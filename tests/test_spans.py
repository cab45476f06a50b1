"""The calls row, most and first: ordinary spans, the edges that the document names, and each refusal."""

from tests.helper import (FIRST_MINUTE, LAST_MINUTE, PORT, SKY, TextCase, first, height, heights, most, port, sky,
                          tell)

# A quarter in a minute: 10000, 0, -10000, 0 and again.
QUARTERS = "angle s 0 900\nwave w 6 s\n"
ONE_WAVE = "level 0\nwave w 1 0\n"

# Spans of so many minutes that may be asked for, and such that may not.
SPANS = ((0, 1), (0, 128), (-5, 7), (FIRST_MINUTE, 1), (FIRST_MINUTE, 128), (FIRST_MINUTE + 1, 128), (LAST_MINUTE, 1),
         (LAST_MINUTE - 1, 2), (LAST_MINUTE - 127, 128), (LAST_MINUTE - 126, 127), (32700, 128), (-32800, 128))
EMPTY_SPANS = ((0, 0), (FIRST_MINUTE, 0), (LAST_MINUTE, 0))
NO_SPANS = ((0, 129), (0, 130), (0, 2 ** 31), (0, 2 ** 32 - 1), (FIRST_MINUTE, 129), (FIRST_MINUTE - 1, 0),
            (FIRST_MINUTE - 1, 1), (FIRST_MINUTE - 1, 2), (FIRST_MINUTE - 1, 128), (-2 ** 32, 0), (-2 ** 32, 128),
            (LAST_MINUTE + 1, 0), (LAST_MINUTE + 1, 1), (LAST_MINUTE, 2), (LAST_MINUTE, 128), (LAST_MINUTE - 126, 128),
            (LAST_MINUTE - 127, 129), (2 ** 32 - 1, 0), (2 ** 32 - 1, 2 ** 32 - 1), (FIRST_MINUTE, 2 ** 32 - 1))


class SpanCase(TextCase):

    def told(self, *calls, over=QUARTERS, text=ONE_WAVE):
        answers = tell(sky(over), port(text), *calls)
        self.assertEqual(answers[:2], [[0], [0]])
        return answers[2:]

    def told_one(self, call, over=QUARTERS, text=ONE_WAVE):
        return self.told(call, over=over, text=text)[0]

    def singles(self, minute, count):
        """The single heights of a span of SKY and PORT."""
        calls = [height(minute + step) for step in range(count)]
        return [answer[1] for answer in self.told(*calls, over=SKY, text=PORT)]

    def assert_no_port(self, *calls):
        for call in calls:
            self.assertEqual(tell(call), [[-3]])
            self.assertEqual(tell(sky(SKY), call), [[0], [-3]])
            self.assertEqual(tell(sky(SKY), port(PORT), sky(""), call)[3], [-3])


class Rows(SpanCase):

    def test_ordinary(self):
        self.assertEqual(self.told_one(heights(0, 5)), [0, 5, 10000, 0, -10000, 0, 10000])
        self.assertEqual(self.told_one(heights(-3, 4)), [0, 4, 0, -10000, 0, 10000])

    def test_no_numbers(self):
        for span in EMPTY_SPANS:
            self.assertEqual(self.told_one(heights(*span)), [0, 0])

    def test_single_heights(self):
        for span in SPANS:
            wanted = self.singles(*span)
            self.assertEqual(self.told_one(heights(*span), SKY, PORT), [0, span[1]] + wanted)
            self.assertEqual(len(wanted), span[1])

    def test_in_any_pieces(self):
        for start in (-64, 32768 - 50, -32768 - 77, LAST_MINUTE - 127):
            whole = self.told_one(heights(start, 128), SKY, PORT)[2:]
            for ends in ((0, 1, 128), (0, 64, 128), (0, 0, 50, 51, 77, 78, 127, 128), tuple(range(129))):
                pieces = [heights(start + a, b - a) for a, b in zip(ends, ends[1:])]
                told = self.told(*pieces, over=SKY, text=PORT)
                self.assertEqual([number for answer in told for number in answer[2:]], whole)

    def test_refusals(self):
        for span in NO_SPANS:
            self.assertEqual(self.told_one(heights(*span)), [-1], span)

    def test_no_port_before_all_else(self):
        self.assert_no_port(heights(0, 0), heights(0, 129), heights(LAST_MINUTE, 2), heights(2 ** 32 - 1, 1))


class Mosts(SpanCase):

    def test_ordinary(self):
        self.assertEqual(self.told_one(most(0, 8)), [0, -10000, 2, 10000, 0])
        self.assertEqual(self.told_one(most(1, 8)), [0, -10000, 2, 10000, 4])
        self.assertEqual(self.told_one(most(-5, 4)), [0, -10000, -2, 10000, -4])

    def test_at_both_ends(self):
        self.assertEqual(self.told_one(most(3, 2)), [0, 0, 3, 10000, 4])
        self.assertEqual(self.told_one(most(0, 3)), [0, -10000, 2, 10000, 0])
        self.assertEqual(self.told_one(most(2, 3)), [0, -10000, 2, 10000, 4])
        self.assertEqual(self.told_one(most(5, 2)), [0, -10000, 6, 0, 5])

    def test_one_minute(self):
        for minute, wanted in ((0, 10000), (2, -10000), (3, 0), (FIRST_MINUTE, 10000), (LAST_MINUTE, 0)):
            self.assertEqual(self.told_one(most(minute, 1)), [0, wanted, minute, wanted, minute])

    def test_all_the_same(self):
        for start in (0, 5, FIRST_MINUTE, LAST_MINUTE - 127):
            self.assertEqual(self.told_one(most(start, 128), text="level -3\n"), [0, -30000, start, -30000, start])

    def test_all_below_and_all_above_0(self):
        self.assertEqual(self.told_one(most(0, 4), text="level -5\nwave w 1 0\n"), [0, -60000, 2, -40000, 0])
        self.assertEqual(self.told_one(most(0, 4), text="level 5\nwave w 1 0\n"), [0, 40000, 2, 60000, 0])

    def test_those_of_the_single_heights(self):
        for start, count in SPANS:
            wanted = self.singles(start, count)
            told = self.told_one(most(start, count), SKY, PORT)
            self.assertEqual(told, [0, min(wanted), start + wanted.index(min(wanted)),
                                    max(wanted), start + wanted.index(max(wanted))])

    def test_refusals(self):
        for span in NO_SPANS + EMPTY_SPANS:
            self.assertEqual(self.told_one(most(*span)), [-1], span)

    def test_no_port_before_all_else(self):
        self.assert_no_port(most(0, 0), most(0, 1), most(0, 129), most(LAST_MINUTE, 2), most(-2 ** 32, 1))


class Firsts(SpanCase):

    def test_up(self):
        for start, count, bound, wanted in ((0, 4, 10000, [1, 0]), (1, 4, 10000, [1, 4]), (1, 3, 10000, [0]),
                                            (1, 4, 0, [1, 1]), (2, 4, 0, [1, 3]), (2, 4, -10000, [1, 2]),
                                            (2, 4, 1, [1, 4]), (0, 128, 10001, [0]), (-3, 4, 10000, [1, 0]),
                                            (-2, 128, -9999, [1, -1])):
            self.assertEqual(self.told_one(first(start, count, bound, 1)), wanted, (start, count, bound))

    def test_down(self):
        for start, count, bound, wanted in ((0, 4, -10000, [1, 2]), (3, 4, -10000, [1, 6]), (3, 3, -10000, [0]),
                                            (0, 4, 0, [1, 1]), (0, 4, 9999, [1, 1]), (0, 4, 10000, [1, 0]),
                                            (3, 4, -1, [1, 6]), (0, 128, -10001, [0]), (-5, 4, -10000, [1, -2])):
            self.assertEqual(self.told_one(first(start, count, bound, 0)), wanted, (start, count, bound))

    def test_several_minutes_of_the_same_height(self):
        for up in (0, 1):
            self.assertEqual(self.told_one(first(-7, 128, 30000, up), text="level 3\n"), [1, -7])
        self.assertEqual(self.told_one(first(0, 128, 30001, 1), text="level 3\n"), [0])
        self.assertEqual(self.told_one(first(0, 128, 29999, 0), text="level 3\n"), [0])

    def test_no_minutes(self):
        for start, count in EMPTY_SPANS:
            for up in (0, 1):
                self.assertEqual(self.told_one(first(start, count, 0, up)), [0])

    def test_bounds_beyond_every_height(self):
        for bound, up, wanted in ((-2 ** 32, 1, [1, 9]), (-2 ** 32, 0, [0]), (2 ** 32 - 1, 1, [0]),
                                  (2 ** 32 - 1, 0, [1, 9])):
            self.assertEqual(self.told_one(first(9, 128, bound, up)), wanted)

    def test_at_the_ends_of_the_minutes(self):
        self.assertEqual(self.told_one(first(FIRST_MINUTE, 128, 10000, 1)), [1, FIRST_MINUTE])
        self.assertEqual(self.told_one(first(LAST_MINUTE - 127, 128, -10000, 0)), [1, LAST_MINUTE - 125])
        self.assertEqual(self.told_one(first(LAST_MINUTE - 2, 3, 0, 1)), [1, LAST_MINUTE - 2])
        self.assertEqual(self.told_one(first(LAST_MINUTE - 1, 2, 0, 1)), [1, LAST_MINUTE])

    def test_those_of_the_single_heights(self):
        for start, count in SPANS:
            wanted = self.singles(start, count)
            low, high = min(wanted), max(wanted)
            for bound in (low - 1, low, wanted[-1], wanted[count // 2] + 1, high, high + 1):
                above = [start + step for step, each in enumerate(wanted) if each >= bound][:1]
                below = [start + step for step, each in enumerate(wanted) if each <= bound][:1]
                told = self.told(first(start, count, bound, 1), first(start, count, bound, 0), over=SKY, text=PORT)
                self.assertEqual(told, [[len(above)] + above, [len(below)] + below])

    def test_refusals(self):
        for span in NO_SPANS:
            for up in (0, 1, 2):
                self.assertEqual(self.told_one(first(*span, 0, up)), [-1], span)
        for up in (2, 3, 2 ** 32 - 1):
            for span in SPANS[:3] + EMPTY_SPANS:
                self.assertEqual(self.told_one(first(*span, 0, up)), [-1], up)

    def test_no_port_before_all_else(self):
        self.assert_no_port(first(0, 0, 0, 0), first(0, 1, 0, 1), first(0, 1, 0, 2), first(0, 129, 0, 0),
                            first(LAST_MINUTE, 2, 0, 0))
