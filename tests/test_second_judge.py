"""Many texts, judged by the program and by a second judge that is written from the document alone."""

import random

from tests.helper import PORT, SKY, PRINT, SIZE, TextCase, port, printed, sky, tell, told_of_port, told_of_sky, wave

NAMES = ("s", "h", "a", "b", "turn", "factor", "shift", "M2", "Abcdef7")
SIGNS = "\n +-.0123456789ahnsturwveglimcofZ?"


class Writer:
    """Writes texts that are often right, seldom not; the same for the same seed."""

    def __init__(self, seed):
        self.chance = random.Random(seed)

    def name(self, names):
        return self.chance.choice(names if names and self.chance.random() < 0.97 else NAMES)

    def number(self, before, behind):
        text = "".join(self.chance.choices("0123456789", k=self.chance.randint(1, before)))
        if self.chance.random() < 0.5:
            text += "." + "".join(self.chance.choices("0123456789", k=self.chance.randint(1, behind)))
        return text

    def small(self):
        return self.chance.choice(("", "-")) + "0." + "".join(self.chance.choices("0123", k=self.chance.randint(1, 12)))

    def terms(self, names, most_count):
        text = self.chance.choice(("", "", "- "))
        for number in range(self.chance.choice((1, 1, 2, 2, 3, 8))):
            text += self.chance.choice((" + ", " - ")) if number else ""
            text += self.chance.choice(("", "", f"{self.chance.randint(1, most_count)} ")) + self.name(names)
        return text

    def sky(self):
        """A text, and the names of its lines by their words."""
        known = {"angle": [], "wave": [], "sum": []}
        text = ""
        for number in range(self.chance.choice((0, 1, 3, 6, 12))):
            word = "angle" if number == 0 else self.chance.choice(("angle", "wave", "wave", "sum"))
            unused = [name for name in NAMES + tuple(f"x{extra}" for extra in range(9)) if f" {name} " not in text]
            name = self.name(unused)
            text += f"{word} {name} " + self.rest(word, known) + "\n"
            known[word].append(name)
        return text, known

    def rest(self, word, known):
        if word == "angle":
            return "-" * self.chance.randint(0, 1) + f"{self.number(3, 12)} {self.number(3, 12)}"
        if word == "sum":
            return self.terms(known["wave"], 4)
        text = self.terms(known["angle"], 15)
        if self.chance.random() < 0.3:
            text += " turn " + self.chance.choice(("90", "180", "270"))
        for part in ("factor", "shift"):
            for each in range(self.chance.choice((0, 0, 1, 2, 8))):
                text += f" {part} {self.small()} " + self.terms(known["angle"], 15)
        return text

    def port(self, names):
        names = list(names)
        self.chance.shuffle(names)
        text = "level " + self.chance.choice(("", "-")) + self.number(2, 4) + "\n"
        for name in names[:self.chance.randint(0, len(names))]:
            lag = self.number(3, 3) if self.chance.random() < 0.1 else self.number(2, 3)
            text += f"wave {self.name([name])} {self.number(2, 4)} {lag}\n"
        return text

    def spoil(self, text):
        """The text with one small change."""
        place = self.chance.randint(0, len(text))
        end = place + self.chance.choice((0, 0, 1, 1, 1, 2, 6))
        return text[:place] + "".join(self.chance.choices(SIGNS, k=self.chance.randint(0, 2))) + text[end:]


class SecondJudge(TextCase):

    def test_second_judge_itself(self):
        self.assertEqual(told_of_sky(SKY), [0])
        self.assertEqual(told_of_port(PORT, SKY), [0])
        self.assertEqual(told_of_sky("sum a 13 b\n"), [-6, 5, 4])
        self.assertEqual(told_of_port("level 0\nwave M2 0 360\n", SKY), [-5, 4, 18])

    def test_skies(self):
        kinds = set()
        writer = Writer(1)
        for number in range(1500):
            text = writer.sky()[0]
            if number % 2:
                text = writer.spoil(text)
            wanted = told_of_sky(text)
            self.assertEqual(tell(sky(text)), [wanted], text)
            kinds.add(tuple(wanted[:2]))
        self.assertLessEqual({(0,), (-6, 1), (-6, 2), (-6, 3), (-6, 5)}, kinds)

    def test_ports(self):
        kinds = set()
        writer = Writer(2)
        names = ["M2", "S2", "K1", "MS4", "M6"]
        for number in range(1500):
            text = writer.port(names * writer.chance.choice((1, 1, 2)))
            if number % 2:
                text = writer.spoil(text)
            wanted = told_of_port(text, SKY)
            self.assertEqual(tell(sky(SKY), port(text)), [[0], wanted], text)
            kinds.add(tuple(wanted[:2]))
        self.assertEqual({(0,), (-5, 1), (-5, 2), (-5, 3), (-5, 4)}, kinds)

    def test_every_sign_at_every_place(self):
        for place in range(len(PORT) + 1):
            for sign in SIGNS:
                text = PORT[:place] + sign + PORT[place + 1:]
                self.assertEqual(tell(sky(SKY), port(text))[1], told_of_port(text, SKY), text)
        text = SKY[:SKY.index("wave K1")]
        for place in range(len(text) + 1):
            for sign in SIGNS:
                spoiled = text[:place] + sign + text[place + 1:]
                self.assertEqual(tell(sky(spoiled)), [told_of_sky(spoiled)], spoiled)

    def test_printed_ports_tell_the_same(self):
        writer = Writer(3)
        asked = [PRINT, SIZE] + [wave(index) for index in range(12)]
        rights = 0
        for number in range(300):
            over, known = writer.sky()
            text = writer.port(known["wave"] + known["sum"])
            first = tell(sky(over), port(text), *asked)
            if first[:2] == [[0], [0]]:
                rights += 1
                again = tell(sky(over), port(printed(first[2])), *asked)
                self.assertEqual(again, first)
        self.assertGreater(rights, 50)
