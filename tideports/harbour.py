"""The calls on one object, and what each answers."""

from tideports.faults import TextFault
from tideports.port import printed_port, read_port
from tideports.reader import codes_of, text_of
from tideports.sky import read_sky
from tideports.tides import Tides

SKY_CALL = 0
PORT_CALL = 1
PRINT_CALL = 2
SIZE_CALL = 3
WAVE_CALL = 4
HEIGHT_CALL = 5
ROW_CALL = 6
MOST_CALL = 7
NUMBERS_OF_CALL = (0, 0, 0, 0, 1, 1, 2, 2, 4)
DONE = 0
FOUND = 1
NONE_FOUND = 0
NOT_ALLOWED = -1
NOT_SET = -3
NO_SUCH_WAVE = -4
PORT_FAULT = -5
SKY_FAULT = -6
FIRST_MINUTE = -2147483648
LAST_MINUTE = 2147483647
LONGEST_SPAN = 128
DOWN = 0
UP = 1


class Harbour:
    """The object that the calls are made on: its sky, its port and the port's tides, None while there is none."""

    def __init__(self):
        self.sky = None
        self.port = None
        self.tides = None


class Tape:
    """The list of calls, of which numbers and rows are taken one behind another."""

    def __init__(self, calls):
        self.calls = calls
        self.place = 0

    def at_end(self):
        return self.place >= len(self.calls)

    def take(self):
        self.place += 1
        return self.calls[self.place - 1]

    def take_many(self, length):
        start = self.place
        self.place += length
        return self.calls[start:self.place]

    def take_row(self):
        return self.take_many(self.take())


def answers(calls):
    """For each call, in order, how many numbers are answered, then these."""
    harbour = Harbour()
    tape = Tape(calls)
    told = []
    while not tape.at_end():
        answer = answer_call(harbour, tape)
        told.append(len(answer))
        told.extend(answer)
    return told


def answer_call(harbour, tape):
    call = tape.take()
    if call == SKY_CALL:
        return answer_sky(harbour, text_of(tape.take_row()))
    if call == PORT_CALL:
        return answer_port(harbour, text_of(tape.take_row()))
    numbers = tape.take_many(NUMBERS_OF_CALL[call])
    if harbour.port is None:
        return [NOT_SET]
    return answer_of_port(harbour, call, numbers)


def answer_of_port(harbour, call, numbers):
    """The answer to a call that needs a port, while there is one."""
    if call == PRINT_CALL:
        return answer_print(harbour.port)
    if call == SIZE_CALL:
        return answer_size(harbour.port)
    if call == WAVE_CALL:
        return answer_wave(harbour, numbers[0])
    if call == HEIGHT_CALL:
        return answer_height(harbour.tides, numbers[0])
    if call == ROW_CALL:
        return answer_row(harbour.tides, numbers[0], numbers[1])
    if call == MOST_CALL:
        return answer_most(harbour.tides, numbers[0], numbers[1])
    return answer_first(harbour.tides, numbers[0], numbers[1], numbers[2], numbers[3])


def answer_sky(harbour, text):
    try:
        sky = read_sky(text)
    except TextFault as fault:
        return [SKY_FAULT, fault.kind, fault.place]
    harbour.sky = sky
    harbour.port = None
    harbour.tides = None
    return [DONE]


def answer_port(harbour, text):
    if harbour.sky is None:
        return [NOT_SET]
    try:
        port = read_port(text, harbour.sky.numbers)
    except TextFault as fault:
        return [PORT_FAULT, fault.kind, fault.place]
    harbour.port = port
    harbour.tides = Tides(harbour.sky, port)
    return [DONE]


def answer_print(port):
    codes = codes_of(printed_port(port))
    return [DONE, len(codes)] + codes


def answer_size(port):
    return [DONE, len(port.waves), port.level]


def answer_wave(harbour, index):
    if index >= len(harbour.port.waves):
        return [NO_SUCH_WAVE]
    wave = harbour.port.waves[index]
    return [DONE, harbour.sky.numbers[wave.name], wave.size, wave.lag]


def answer_height(tides, minute):
    if not is_minute(minute):
        return [NOT_ALLOWED]
    return [DONE, tides.height(minute)]


def answer_row(tides, start, count):
    if not is_span(start, count):
        return [NOT_ALLOWED]
    return [DONE, count] + heights_of(tides, start, count)


def answer_most(tides, start, count):
    if count == 0 or not is_span(start, count):
        return [NOT_ALLOWED]
    heights = heights_of(tides, start, count)
    low = min(heights)
    high = max(heights)
    return [DONE, low, start + heights.index(low), high, start + heights.index(high)]


def answer_first(tides, start, count, bound, way):
    if way > UP or not is_span(start, count):
        return [NOT_ALLOWED]
    for minute in range(start, start + count):
        height = tides.height(minute)
        if (way == UP and height >= bound) or (way == DOWN and height <= bound):
            return [FOUND, minute]
    return [NONE_FOUND]


def is_minute(number):
    return FIRST_MINUTE <= number <= LAST_MINUTE


def is_span(start, count):
    """Whether so many minutes from the start on may be asked for; none may, too."""
    if not is_minute(start) or count > LONGEST_SPAN:
        return False
    return count == 0 or is_minute(start + count - 1)


def heights_of(tides, start, count):
    return [tides.height(minute) for minute in range(start, start + count)]
