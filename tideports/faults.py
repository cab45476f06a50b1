"""What is told of a text that isn't right."""

GRAMMAR = 1
NAME_TWICE = 2
NAME_NOT_THERE = 3


class TextFault(Exception):
    """A text's one fault: its kind, and how many bytes stand before it."""

    def __init__(self, kind, place):
        self.kind = kind
        self.place = place
