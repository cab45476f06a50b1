"""The interface: how calls are laid out, in any order, and that nothing is changed or kept."""

import unittest

from tests.helper import (Drawer, FIRST_MINUTE, LAST_MINUTE, PORT, PRINT, SIZE, SKY, SecondPort, first, height, heights,
                          most, port, printed, sky, split, tell, told_of_port, told_of_sky, wave)
from tideports.harbour import answers


def flat(*calls):
    return [number for call in calls for number in call]


SHORT_SKY = "angle s 0 0\nwave a s\n"


class Layout(unittest.TestCase):

    def test_how_many_numbers_are_answered(self):
        calls = flat(PRINT, sky("x"), sky(SHORT_SKY), port("level 1\nx"), port("level 1\nwave a 2 3\n"), SIZE, wave(0),
                     wave(1), PRINT)
        text = [ord(sign) for sign in "level 1\nwave a 2 3\n"]
        wanted = [1, -3, 3, -6, 1, 0, 1, 0, 3, -5, 1, 8, 1, 0, 3, 0, 1, 10000, 4, 0, 0, 20000, 3000, 1, -4]
        self.assertEqual(answers(calls), wanted + [21, 0, 19] + text)

    def test_how_many_numbers_are_answered_of_heights(self):
        calls = flat(sky("angle s 0 900\nwave a 6 s\n"), port("level 0\nwave a 0.0007 0\n"), height(2),
                     height(2 ** 31), heights(-1, 3), heights(5, 0), heights(0, 129), most(0, 4), most(0, 0),
                     first(0, 4, 0, 0), first(0, 4, 8, 1), first(0, 4, 0, 2), SIZE)
        self.assertEqual(answers(calls), [1, 0, 1, 0, 2, 0, -7, 1, -1, 5, 0, 3, 0, 7, 0, 2, 0, 0, 1, -1,
                                          5, 0, -7, 2, 7, 0, 1, -1, 2, 1, 1, 1, 0, 1, -1, 3, 0, 1, 0])

    def test_numbers_of_a_refused_call_are_no_calls(self):
        calls = [4, 3, 5, 3, 6, 3, 3, 7, 3, 3, 8, 3, 3, 3, 3, 3]
        self.assertEqual(answers(calls), [1, -3] * 6)
        calls = flat(sky(""), port("level 0\n"), [4, 3, 5, 2 ** 31, 6, 3, 2 ** 32 - 1, 7, 3, 0, 8, 3, 3, 3, 3, 3])
        self.assertEqual(answers(calls), [1, 0, 1, 0, 1, -4] + [1, -1] * 4 + [3, 0, 0, 0])

    def test_one_call(self):
        self.assertEqual(answers([3]), [1, -3])
        self.assertEqual(answers([0, 0]), [1, 0])
        self.assertEqual(answers([1, 0]), [1, -3])
        for calls in (wave(0), height(0), heights(0, 0), most(0, 1), first(0, 1, 0, 1)):
            self.assertEqual(answers(calls), [1, -3])

    def test_a_rows_numbers_are_no_calls(self):
        self.assertEqual(answers([0, 3, 2, 3, 4, 3]), [3, -6, 1, 0, 1, -3])
        self.assertEqual(answers([1, 2, 0, 1, 4, 3]), [1, -3, 1, -3])

    def test_three_hundred_calls(self):
        self.assertEqual(tell(*[SIZE] * 300), [[-3]] * 300)
        self.assertEqual(tell(sky(SKY), port(PORT), *[wave(1)] * 298)[2:], [[0, 0, 10000, 0]] * 298)

    def test_longest_texts(self):
        line = "angle s 0 0\n"
        text = line * (29900 // len(line))
        self.assertEqual(tell(sky(text), SIZE), [[-6, 2, len(line) + 6], [-3]])
        text = "angle s " + "1" * 29892
        self.assertEqual(tell(sky(text)), [[-6, 1, 11]])
        text = "level 0\n" + "wave a 1 1\n" * 2700 + "w" * 100
        self.assertEqual(tell(sky(SHORT_SKY), port(text)), [[0], [-5, 1, len(text) - 99]])

    def test_answers_are_whole_numbers(self):
        told = answers(flat(sky(SKY), port(PORT), PRINT, SIZE, wave(0), wave(9), port("x"), sky("x"), height(0),
                            height(2 ** 31), heights(0, 3), heights(0, 0), most(0, 3), first(0, 3, 0, 1),
                            first(0, 0, 0, 0), first(0, 0, 0, 2)))
        self.assertIs(type(told), list)
        self.assertEqual({type(number) for number in told}, {int})


class Order(unittest.TestCase):

    def test_any_order(self):
        told = tell(wave(0), SIZE, PRINT, port(PORT), sky("!"), port(PORT), sky(SKY), wave(0), SIZE, PRINT, port("!"),
                    SIZE, port(PORT), SIZE, wave(3), wave(1), sky("!"), wave(1), sky(SHORT_SKY), wave(1), SIZE, PRINT,
                    port(PORT), SIZE)
        self.assertEqual(told, [[-3], [-3], [-3], [-3], [-6, 1, 0], [-3], [0], [-3], [-3], [-3], [-5, 1, 0],
                                [-3], [0], [0, 3, 12500], [-4], [0, 0, 10000, 0], [-6, 1, 0], [0, 0, 10000, 0], [0],
                                [-3], [-3], [-3], [-5, 3, 16], [-3]])

    def test_every_refusal_leaves_all_as_it_was(self):
        looks = [PRINT, SIZE, wave(0), wave(1), wave(2), wave(3), height(-40000), heights(32760, 20), most(0, 9),
                 first(0, 128, 0, 1)]
        refusals = [sky("x"), sky("sum a b\n"), sky(SKY + "angle s 0 0\n"), port(""), port("level 1\nwave M2 1 1"),
                    port("level 1\nwave M2 1 1\nwave M2 1 1\n"), port("level 1\nwave M2 1 1\nwave s 1 1\n"),
                    port("level 1\nwave M2 1 360\n"), wave(3), height(2 ** 31), heights(0, 129), most(0, 0),
                    first(0, 1, 0, 2)]
        before = tell(sky(SKY), port(PORT), *looks)[2:]
        for refusal in refusals:
            told = tell(sky(SKY), port(PORT), refusal, *looks)
            self.assertLess(told[2][0], 0)
            self.assertEqual(told[3:], before)

    def test_numbers_are_those_of_the_new_sky(self):
        told = tell(sky(SKY), port("level 0\nwave S2 1 1\n"), wave(0),
                    sky("angle s 0 0\nwave S2 s\n"), port("level 0\nwave S2 1 1\n"), wave(0))
        self.assertEqual([told[2], told[5]], [[0, 1, 10000, 1000], [0, 0, 10000, 1000]])

    def test_heights_are_those_of_the_new_sky_and_the_new_port(self):
        fast, slow = "angle s 0 900\nwave a 6 s\n", "angle s 0 60\nwave a s\n"
        one, two = "level 0\nwave a 1 0\n", "level 0\nwave a 2 0\n"
        told = tell(sky(fast), port(one), height(2), port(two), height(2), sky(slow), height(2), port(two), height(2),
                    port("x"), sky("x"), height(180), port(one), height(180), sky(fast), port(one), height(180))
        self.assertEqual([answer[-1] for answer in told if len(answer) == 2],
                         [-10000, -20000, 19988, -20000, -10000, 10000])
        self.assertEqual(told[6], [-3])

    def test_asking_changes_nothing(self):
        asked = [PRINT, SIZE, wave(2), height(5), heights(-9, 20), most(7, 7), first(0, 50, 0, 0), height(40000)]
        told = tell(sky(SKY), port(PORT), *asked, *asked)
        self.assertEqual(told[2:10], told[10:])


class Model:
    """What is to be answered, by the second judge and the second reckoning."""

    def __init__(self):
        self.over = None
        self.port = None

    def answer(self, call):
        word, *numbers = call
        if word == 0:
            return self.answer_sky(bytes(numbers[1:]).decode("latin-1"))
        if word == 1:
            return self.answer_port(bytes(numbers[1:]).decode("latin-1"))
        if self.port is None:
            return [-3]
        if word == 2:
            text = [ord(sign) for sign in self.port.printed()]
            return [0, len(text)] + text
        if word == 3:
            return [0, len(self.port.waves), int(self.port.level)]
        if word == 4:
            return self.answer_wave(*numbers)
        return self.answer_heights(word, *numbers)

    def answer_sky(self, text):
        told = told_of_sky(text)
        if told == [0]:
            self.over, self.port = text, None
        return told

    def answer_port(self, text):
        if self.over is None:
            return [-3]
        told = told_of_port(text, self.over)
        if told == [0]:
            self.port = SecondPort(self.over, text)
        return told

    def answer_wave(self, index):
        if index >= len(self.port.waves):
            return [-4]
        name, size, lag = self.port.waves[index]
        return [0, self.port.sky.numbers.index(name), int(size), int(lag * 1000)]

    def answer_heights(self, word, minute, count=1, bound=0, up=0):
        minutes = range(minute, minute + count) if count <= 128 else None
        if minutes is None or up > 1 or (word == 7 and count == 0):
            return [-1]
        if not all(FIRST_MINUTE <= each <= LAST_MINUTE for each in (minute, *minutes)):
            return [-1]
        told = [self.port.height(each) for each in minutes]
        if word == 5:
            return [0] + told
        if word == 6:
            return [0, count] + told
        if word == 7:
            return [0, min(told), minutes[told.index(min(told))], max(told), minutes[told.index(max(told))]]
        found = [each for each, number in zip(minutes, told) if (number >= bound if up else number <= bound)]
        return [1, found[0]] if found else [0]


class Chooser:
    """Draws calls, right ones and wrong ones."""

    def __init__(self, seed):
        self.drawer = Drawer(seed)
        self.chance = self.drawer.chance
        self.over = ""

    def spoilt(self, text):
        if self.chance.random() < 0.8:
            return text
        place = self.chance.randint(0, len(text))
        return text[:place] + chr(self.chance.randint(0, 255)) + text[place:]

    def count(self):
        return self.chance.choice((0, 1, 2, 3, 5, 9, 128 if self.chance.random() < 0.1 else 4, 129, 2 ** 32 - 1))

    def minute(self):
        return self.drawer.minute() + self.chance.choice((0,) * 8 + (-1, 1, -2 ** 31, 2 ** 31))

    def call(self):
        word = self.chance.choice((0, 1, 1, 1, 2, 3, 4, 4, 5, 5, 5, 6, 6, 7, 7, 8, 8))
        if word == 0:
            self.over = self.drawer.sky(2)
            return sky(self.spoilt(self.over).encode("latin-1"))
        if word == 1:
            over = self.over or "angle s 0 0\nwave w0 s\n"
            return port(self.spoilt(self.drawer.port(over)).encode("latin-1"))
        if word in (2, 3):
            return [word]
        if word == 4:
            return wave(self.chance.choice((0, 0, 1, 2, 3, 2 ** 32 - 1)))
        if word == 5:
            return height(min(max(self.minute(), -2 ** 32), 2 ** 32 - 1))
        numbers = [min(max(self.minute(), -2 ** 32), 2 ** 32 - 1), self.count()]
        if word == 8:
            numbers += [self.chance.randint(-10 ** 6, 10 ** 6), self.chance.choice((0, 0, 0, 1, 1, 1, 2, 2 ** 32 - 1))]
        return [word] + numbers


class DrawnCalls(unittest.TestCase):

    def test_drawn_calls(self):
        answered = set()
        for seed in range(60):
            chooser = Chooser(seed)
            calls = [sky(SKY), port(PORT)] if seed % 2 else []
            calls += [chooser.call() for each in range(chooser.chance.choice((1, 2, 10, 30)))]
            model = Model()
            wanted = [model.answer(call) for call in calls]
            self.assertEqual(tell(*calls), wanted, calls)
            answered |= {(call[0], answer[0]) for call, answer in zip(calls, wanted)}
        self.assertEqual(answered, {(0, 0), (0, -6), (1, 0), (1, -3), (1, -5), (2, 0), (2, -3), (3, 0), (3, -3),
                                    (4, 0), (4, -3), (4, -4), (5, 0), (5, -3), (5, -1), (6, 0), (6, -3), (6, -1),
                                    (7, 0), (7, -3), (7, -1), (8, 0), (8, 1), (8, -3), (8, -1)})

    def test_three_hundred_drawn_calls_behind_one_port(self):
        chooser = Chooser(77)
        calls = [sky(SKY), port(PORT)]
        while len(calls) < 300:
            call = chooser.call()
            if call[0] > 1:
                calls.append(call)
        self.assertLessEqual(len(flat(*calls)), 30000)
        model = Model()
        self.assertEqual(tell(*calls), [model.answer(call) for call in calls])

    def test_the_longest_list(self):
        over = "angle s 0 0.5\n" + "".join(f"wave w{number} s\n" for number in range(128))
        text = "level 0\n" + "".join(f"wave w{number} 0.1 0\n" for number in range(128))
        calls = [sky(over), port(text)] + [first(0, 128, 127990, 0)] * 200
        left = 30000 - len(flat(*calls)) - 2
        calls.append(sky("x" * left))
        self.assertEqual(len(flat(*calls)), 30000)
        self.assertEqual(tell(*calls), [[0], [0]] + [[1, 84]] * 200 + [[-6, 1, 0]])


class Watched(list):
    """A list that refuses to be changed, even for a while."""

    def refuse(self, *args, **named):
        raise AssertionError("what was handed in is changed")

    append = extend = insert = pop = remove = clear = sort = reverse = refuse
    __setitem__ = __delitem__ = __iadd__ = __imul__ = refuse


class NothingKept(unittest.TestCase):

    calls = flat(sky(SKY), port(PORT), PRINT, SIZE, wave(0), port("level"), sky("wave"), height(7), heights(-3, 9),
                 most(0, 5), first(0, 9, 0, 1), PRINT)

    def test_handed_in_is_unchanged(self):
        before = list(self.calls)
        answers(self.calls)
        self.assertEqual(self.calls, before)
        self.assertEqual(answers(Watched(before)), answers(before))

    def test_a_second_time_is_as_the_first(self):
        first = answers(list(self.calls))
        self.assertEqual(answers(list(self.calls)), first)
        self.assertEqual(answers([3]), [1, -3])
        self.assertEqual(answers([1] + [0]), [1, -3])
        self.assertEqual(answers(height(7) + heights(0, 1)), [1, -3, 1, -3])
        self.assertEqual(answers(list(self.calls)), first)

    def test_what_is_given_back_is_the_askers_own(self):
        first = answers(list(self.calls))
        kept = list(first)
        first.clear()
        self.assertEqual(answers(list(self.calls)), kept)
        self.assertEqual(printed(split(kept)[2])[:6], "level ")


