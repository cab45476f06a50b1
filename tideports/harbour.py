"""The calls on one object, and what each answers."""

from tideports.faults import TextFault
from tideports.port import printed_port, read_port
from tideports.reader import codes_of, text_of
from tideports.sky import read_sky

SKY_CALL = 0
PORT_CALL = 1
PRINT_CALL = 2
SIZE_CALL = 3
WAVE_CALL = 4
DONE = 0
NOT_SET = -3
NO_SUCH_WAVE = -4
PORT_FAULT = -5
SKY_FAULT = -6


class Harbour:
    """The object that the calls are made on: its sky and its port, None while there is none."""

    def __init__(self):
        self.sky = None
        self.port = None


class Tape:
    """The list of calls, of which numbers and rows are taken one behind another."""

    def __init__(self, calls):
        self.calls = calls
        self.place = 0

    def at_end(self):
        return self.place >= len(self.calls)

    def take(self):
        self.place += 1
        return self.calls[self.place - 1]

    def take_row(self):
        length = self.take()
        start = self.place
        self.place += length
        return self.calls[start:self.place]


def answers(calls):
    """For each call, in order, how many numbers are answered, then these."""
    harbour = Harbour()
    tape = Tape(calls)
    told = []
    while not tape.at_end():
        answer = answer_call(harbour, tape)
        told.append(len(answer))
        told.extend(answer)
    return told


def answer_call(harbour, tape):
    call = tape.take()
    if call == SKY_CALL:
        return answer_sky(harbour, text_of(tape.take_row()))
    if call == PORT_CALL:
        return answer_port(harbour, text_of(tape.take_row()))
    if call == PRINT_CALL:
        return answer_print(harbour)
    if call == SIZE_CALL:
        return answer_size(harbour)
    if call == WAVE_CALL:
        return answer_wave(harbour, tape.take())
    raise NotImplementedError(f"call {call}")


def answer_sky(harbour, text):
    try:
        sky = read_sky(text)
    except TextFault as fault:
        return [SKY_FAULT, fault.kind, fault.place]
    harbour.sky = sky
    harbour.port = None
    return [DONE]


def answer_port(harbour, text):
    if harbour.sky is None:
        return [NOT_SET]
    try:
        port = read_port(text, harbour.sky.numbers)
    except TextFault as fault:
        return [PORT_FAULT, fault.kind, fault.place]
    harbour.port = port
    return [DONE]


def answer_print(harbour):
    if harbour.port is None:
        return [NOT_SET]
    codes = codes_of(printed_port(harbour.port))
    return [DONE, len(codes)] + codes


def answer_size(harbour):
    if harbour.port is None:
        return [NOT_SET]
    return [DONE, len(harbour.port.waves), harbour.port.level]


def answer_wave(harbour, index):
    if harbour.port is None:
        return [NOT_SET]
    if index >= len(harbour.port.waves):
        return [NO_SUCH_WAVE]
    wave = harbour.port.waves[index]
    return [DONE, harbour.sky.numbers[wave.name], wave.size, wave.lag]
