"""Going through a text sign by sign, so that a fault is told where no right text goes on."""

from tideports.faults import GRAMMAR, TextFault

SIGNS = "\n +-.0123456789ABCDEFGHIJKLMNOPQRSTUVWXYZabcdefghijklmnopqrstuvwxyz"
OTHER_SIGN = "?"
NAME_LENGTH = 7


def text_of(codes):
    """The text of a row of bytes, sign for byte."""
    # Bytes beyond SIGNS are at fault wherever they stand, so one sign may stand for them all.
    signs = {}
    for sign in SIGNS:
        signs[ord(sign)] = sign
    return "".join([signs.get(code, OTHER_SIGN) for code in codes])


def codes_of(text):
    return [ord(sign) for sign in text]


class Reader:
    """A text and the place in it that is read next."""

    def __init__(self, text):
        self.text = text
        self.place = 0

    def here(self):
        """The sign that is read next, an empty text at the end."""
        return self.text[self.place:self.place + 1]

    def read_one_of(self, words):
        """Reads one of these words, of which none begins another, and gives it back."""
        left = words
        length = 0
        while True:
            sign = self.here()
            left = [word for word in left if word[length:length + 1] == sign]
            if left == []:
                raise TextFault(GRAMMAR, self.place)
            self.place += 1
            length += 1
            if len(left[0]) == length:
                return left[0]

    def read_name(self):
        start = self.place
        if not self.here().isalpha():
            raise TextFault(GRAMMAR, self.place)
        while self.place < start + NAME_LENGTH and self.here().isalnum():
            self.place += 1
        return self.text[start:self.place]

    def read_digits(self, most):
        """Reads from 1 to so many digits."""
        start = self.place
        while self.place < start + most and self.here().isdigit():
            self.place += 1
        if self.place == start:
            raise TextFault(GRAMMAR, self.place)
        return self.text[start:self.place]

    def read_decimal(self, most_before, most_behind):
        """Reads a number without a sign, in units of the last place that it may have behind the point."""
        before = self.read_digits(most_before)
        behind = ""
        if self.here() == ".":
            self.place += 1
            behind = self.read_digits(most_behind)
        return int(before + behind.ljust(most_behind, "0"))

    def read_signed_decimal(self, most_before, most_behind):
        if self.here() != "-":
            return self.read_decimal(most_before, most_behind)
        self.place += 1
        return -self.read_decimal(most_before, most_behind)
