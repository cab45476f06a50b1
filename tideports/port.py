"""A port: its text read over a sky, and printed."""

from tideports.faults import NAME_NOT_THERE, NAME_TWICE, TextFault
from tideports.reader import Reader

LAG_TOO_LARGE = 4
SIZE_DIGITS_BEFORE = 2
SIZE_DIGITS_BEHIND = 4
LAG_DIGITS_BEFORE = 3
LAG_DIGITS_BEHIND = 3
WHOLE_TURN = 360000


class PortWave:
    """One wave: its size in tenths of a millimetre, its lag in thousandths of a degree, where both stand."""

    def __init__(self, name, name_place, size, lag, lag_place):
        self.name = name
        self.name_place = name_place
        self.size = size
        self.lag = lag
        self.lag_place = lag_place


class Port:
    """The level in tenths of a millimetre, and the waves as they stand."""

    def __init__(self, level, waves):
        self.level = level
        self.waves = waves


def read_port(text, numbers):
    """The port of this text; numbers has the names of the sky's waves and sums. Raises TextFault."""
    port = read_lines(Reader(text))
    known = {}
    for wave in port.waves:
        if wave.name in known:
            raise TextFault(NAME_TWICE, wave.name_place)
        if wave.name not in numbers:
            raise TextFault(NAME_NOT_THERE, wave.name_place)
        if wave.lag >= WHOLE_TURN:
            raise TextFault(LAG_TOO_LARGE, wave.lag_place)
        known[wave.name] = True
    return port


def read_lines(reader):
    """The port as the grammar alone has it."""
    reader.read_one_of(("level ",))
    level = reader.read_signed_decimal(SIZE_DIGITS_BEFORE, SIZE_DIGITS_BEHIND)
    reader.read_one_of(("\n",))
    waves = []
    while reader.here() != "":
        waves.append(read_wave(reader))
    return Port(level, waves)


def read_wave(reader):
    reader.read_one_of(("wave ",))
    name_place = reader.place
    name = reader.read_name()
    reader.read_one_of((" ",))
    size = reader.read_decimal(SIZE_DIGITS_BEFORE, SIZE_DIGITS_BEHIND)
    reader.read_one_of((" ",))
    lag_place = reader.place
    lag = reader.read_decimal(LAG_DIGITS_BEFORE, LAG_DIGITS_BEHIND)
    reader.read_one_of(("\n",))
    return PortWave(name, name_place, size, lag, lag_place)


def printed_port(port):
    lines = ["level " + printed_decimal(port.level, SIZE_DIGITS_BEHIND) + "\n"]
    for wave in port.waves:
        size = printed_decimal(wave.size, SIZE_DIGITS_BEHIND)
        lag = printed_decimal(wave.lag, LAG_DIGITS_BEHIND)
        lines.append("wave " + wave.name + " " + size + " " + lag + "\n")
    return "".join(lines)


def printed_decimal(value, behind):
    """A number whose unit is the last of so many places behind the point, as short as it may be."""
    digits = str(abs(value)).zfill(behind + 1)
    sign = "-" if value < 0 else ""
    fraction = digits[-behind:].rstrip("0")
    point = "." if fraction != "" else ""
    return sign + digits[:-behind] + point + fraction
