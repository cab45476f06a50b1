"""The interface: how calls are laid out, in any order, and that nothing is changed or kept."""

import unittest

from tests.helper import PORT, PRINT, SIZE, SKY, port, printed, sky, split, tell, wave
from tideports.harbour import answers


def flat(*calls):
    return [number for call in calls for number in call]


SHORT_SKY = "angle s 0 0\nwave a s\n"


class Layout(unittest.TestCase):

    def test_how_many_numbers_are_answered(self):
        calls = flat(PRINT, sky("x"), sky(SHORT_SKY), port("level 1\nx"), port("level 1\nwave a 2 3\n"), SIZE, wave(0),
                     wave(1), PRINT)
        text = [ord(sign) for sign in "level 1\nwave a 2 3\n"]
        wanted = [1, -3, 3, -6, 1, 0, 1, 0, 3, -5, 1, 8, 1, 0, 3, 0, 1, 10000, 4, 0, 0, 20000, 3000, 1, -4]
        self.assertEqual(answers(calls), wanted + [21, 0, 19] + text)

    def test_one_call(self):
        self.assertEqual(answers([3]), [1, -3])
        self.assertEqual(answers([0, 0]), [1, 0])
        self.assertEqual(answers([1, 0]), [1, -3])

    def test_a_rows_numbers_are_no_calls(self):
        self.assertEqual(answers([0, 3, 2, 3, 4, 3]), [3, -6, 1, 0, 1, -3])
        self.assertEqual(answers([1, 2, 0, 1, 4, 3]), [1, -3, 1, -3])

    def test_three_hundred_calls(self):
        self.assertEqual(tell(*[SIZE] * 300), [[-3]] * 300)
        self.assertEqual(tell(sky(SKY), port(PORT), *[wave(1)] * 298)[2:], [[0, 0, 10000, 0]] * 298)

    def test_longest_texts(self):
        line = "angle s 0 0\n"
        text = line * (29900 // len(line))
        self.assertEqual(tell(sky(text), SIZE), [[-6, 2, len(line) + 6], [-3]])
        text = "angle s " + "1" * 29892
        self.assertEqual(tell(sky(text)), [[-6, 1, 11]])
        text = "level 0\n" + "wave a 1 1\n" * 2700 + "w" * 100
        self.assertEqual(tell(sky(SHORT_SKY), port(text)), [[0], [-5, 1, len(text) - 99]])

    def test_answers_are_whole_numbers(self):
        told = answers(flat(sky(SKY), port(PORT), PRINT, SIZE, wave(0), wave(9), port("x"), sky("x")))
        self.assertIs(type(told), list)
        self.assertEqual({type(number) for number in told}, {int})


class Order(unittest.TestCase):

    def test_any_order(self):
        told = tell(wave(0), SIZE, PRINT, port(PORT), sky("!"), port(PORT), sky(SKY), wave(0), SIZE, PRINT, port("!"),
                    SIZE, port(PORT), SIZE, wave(3), wave(1), sky("!"), wave(1), sky(SHORT_SKY), wave(1), SIZE, PRINT,
                    port(PORT), SIZE)
        self.assertEqual(told, [[-3], [-3], [-3], [-3], [-6, 1, 0], [-3], [0], [-3], [-3], [-3], [-5, 1, 0],
                                [-3], [0], [0, 3, 12500], [-4], [0, 0, 10000, 0], [-6, 1, 0], [0, 0, 10000, 0], [0],
                                [-3], [-3], [-3], [-5, 3, 16], [-3]])

    def test_every_refusal_leaves_all_as_it_was(self):
        looks = [PRINT, SIZE, wave(0), wave(1), wave(2), wave(3)]
        refusals = [sky("x"), sky("sum a b\n"), sky(SKY + "angle s 0 0\n"), port(""), port("level 1\nwave M2 1 1"),
                    port("level 1\nwave M2 1 1\nwave M2 1 1\n"), port("level 1\nwave M2 1 1\nwave s 1 1\n"),
                    port("level 1\nwave M2 1 360\n"), wave(3)]
        before = tell(sky(SKY), port(PORT), *looks)[2:]
        for refusal in refusals:
            told = tell(sky(SKY), port(PORT), refusal, *looks)
            self.assertLess(told[2][0], 0)
            self.assertEqual(told[3:], before)

    def test_numbers_are_those_of_the_new_sky(self):
        told = tell(sky(SKY), port("level 0\nwave S2 1 1\n"), wave(0),
                    sky("angle s 0 0\nwave S2 s\n"), port("level 0\nwave S2 1 1\n"), wave(0))
        self.assertEqual([told[2], told[5]], [[0, 1, 10000, 1000], [0, 0, 10000, 1000]])

    def test_asking_changes_nothing(self):
        told = tell(sky(SKY), port(PORT), PRINT, SIZE, wave(2), PRINT, SIZE, wave(2))
        self.assertEqual(told[2:5], told[5:8])


class Watched(list):
    """A list that refuses to be changed, even for a while."""

    def refuse(self, *args, **named):
        raise AssertionError("what was handed in is changed")

    append = extend = insert = pop = remove = clear = sort = reverse = refuse
    __setitem__ = __delitem__ = __iadd__ = __imul__ = refuse


class NothingKept(unittest.TestCase):

    calls = flat(sky(SKY), port(PORT), PRINT, SIZE, wave(0), port("level"), sky("wave"), PRINT)

    def test_handed_in_is_unchanged(self):
        before = list(self.calls)
        answers(self.calls)
        self.assertEqual(self.calls, before)
        self.assertEqual(answers(Watched(before)), answers(before))

    def test_a_second_time_is_as_the_first(self):
        first = answers(list(self.calls))
        self.assertEqual(answers(list(self.calls)), first)
        self.assertEqual(answers([3]), [1, -3])
        self.assertEqual(answers([1] + [0]), [1, -3])
        self.assertEqual(answers(list(self.calls)), first)

    def test_what_is_given_back_is_the_askers_own(self):
        first = answers(list(self.calls))
        kept = list(first)
        first.clear()
        self.assertEqual(answers(list(self.calls)), kept)
        self.assertEqual(printed(split(kept)[2])[:6], "level ")


