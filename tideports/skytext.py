"""A sky's text by its grammar alone: its lines, whatever their names."""

from tideports.reader import Reader

ANGLE = "angle "
WAVE = "wave "
SUM = "sum "
TURN = " turn "
FACTOR = " factor "
SHIFT = " shift "
PLUS = " + "
MINUS = " - "
LINE_END = "\n"
COUNTS = ("1 ", "2 ", "3 ", "4 ", "5 ", "6 ", "7 ", "8 ", "9 ", "10 ", "11 ", "12 ", "13 ", "14 ", "15 ")
TURNS = ("90", "180", "270")
MOST_TERMS = 8
MOST_PARTS = 8
DIGITS_BEFORE = 3
DIGITS_BEHIND = 12


class SkyLine:
    """One line of a sky's text. What a line of its word doesn't have is 0 or empty.

    Numbers are in units of 10^-12. A term is (count with its sign, name, the name's place);
    a factor and a shift is (number, terms).
    """

    def __init__(self, word, place, name):
        self.word = word
        self.place = place
        self.name = name
        self.phase = 0
        self.rate = 0
        self.terms = []
        self.turn = 0
        self.factors = []
        self.shifts = []


def read_lines(text):
    """The lines of a sky's text; raises TextFault where the grammar is broken."""
    reader = Reader(text)
    lines = []
    while reader.here() != "":
        lines.append(read_line(reader))
    return lines


def read_line(reader):
    word = reader.read_one_of((ANGLE, WAVE, SUM))
    place = reader.place
    line = SkyLine(word, place, reader.read_name())
    reader.read_one_of((" ",))
    if word == ANGLE:
        read_angle(reader, line)
    elif word == WAVE:
        read_wave(reader, line)
    else:
        read_sum(reader, line.terms, (LINE_END,))
    return line


def read_angle(reader, line):
    line.phase = read_number(reader)
    reader.read_one_of((" ",))
    line.rate = read_number(reader)
    reader.read_one_of((LINE_END,))


def read_wave(reader, line):
    behind = read_sum(reader, line.terms, (TURN, FACTOR, SHIFT, LINE_END))
    if behind == TURN:
        line.turn = int(reader.read_one_of(TURNS))
        behind = reader.read_one_of((FACTOR, SHIFT, LINE_END))
    while behind == FACTOR:
        behind = read_part(reader, line.factors, FACTOR, (SHIFT, LINE_END))
    while behind == SHIFT:
        behind = read_part(reader, line.shifts, SHIFT, (LINE_END,))


def read_part(reader, parts, word, others):
    """Reads a factor or a shift into parts; gives back what stands behind it: its word again or one of the others."""
    number = read_number(reader)
    reader.read_one_of((" ",))
    terms = []
    parts.append((number, terms))
    if len(parts) < MOST_PARTS:
        return read_sum(reader, terms, (word,) + others)
    return read_sum(reader, terms, others)


def read_sum(reader, terms, ends):
    """Reads a SUM into terms; gives back which of the ends stands behind it."""
    sign = 1
    if reader.here() == "-":
        reader.read_one_of(("- ",))
        sign = -1
    terms.append(read_term(reader, sign))
    while True:
        # Only what may really come is offered: so the blank is at fault where just a line's end may.
        more = (PLUS, MINUS) if len(terms) < MOST_TERMS else ()
        behind = reader.read_one_of(more + ends)
        if behind in ends:
            return behind
        terms.append(read_term(reader, 1 if behind == PLUS else -1))


def read_term(reader, sign):
    count = 1
    if reader.here().isdigit():
        count = int(reader.read_one_of(COUNTS).rstrip())
    place = reader.place
    return (sign * count, reader.read_name(), place)


def read_number(reader):
    return reader.read_signed_decimal(DIGITS_BEFORE, DIGITS_BEHIND)
