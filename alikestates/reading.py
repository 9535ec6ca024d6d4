"""A formula's text, read into parts one behind another.

A part is a sign and a number: ("t", 0), ("c", colour), ("!", 0), ("&", 0) or
("<", label). What a part is made of stands ahead of it, so that loops go
through the text and its parts, however deep it is nested.
"""

from alikestates.states import LAST_COLOUR, LAST_LABEL

MOST_BYTES = 10000
MOST_DEEP = 500

SIGNS = {
    33: "!", 38: "&", 40: "(", 41: ")", 48: "0", 49: "1", 50: "2", 51: "3", 52: "4",
    53: "5", 54: "6", 55: "7", 56: "8", 57: "9", 60: "<", 62: ">", 99: "c", 116: "t",
}
# Stands for each byte that no formula has.
OTHER = "?"

BEGINNINGS = ("t", "c", "!", "(", "<")


class TooLong(Exception):
    pass


class Fault(Exception):
    def __init__(self, place):
        self.place = place


class Reader:
    def __init__(self, signs):
        self.signs = signs
        self.at = 0
        self.parts = []
        # What is begun and not ended, the outermost first: its length tells
        # how deep the text is nested here.
        self.waiting = []

    def sign(self):
        # Behind the end this is the empty text, which is like no sign.
        return self.signs[self.at:self.at + 1]

    def pass_over(self, sign):
        if self.sign() != sign:
            raise Fault(self.at)
        self.at += 1

    def read_number(self, most):
        start = self.at
        while self.sign().isdigit():
            self.at += 1
        digits = self.signs[start:self.at]
        if not is_number(digits, most):
            raise Fault(start)
        return int(digits)

    def read_beginning(self):
        sign = self.sign()
        if len(self.waiting) == MOST_DEEP or sign not in BEGINNINGS:
            raise Fault(self.at)
        self.at += 1
        if sign == "t":
            self.parts.append((sign, 0))
        elif sign == "c":
            self.parts.append((sign, self.read_number(LAST_COLOUR)))
        elif sign == "<":
            self.waiting.append((sign, self.read_number(LAST_LABEL)))
            self.pass_over(">")
        else:
            self.waiting.append((sign, 0))
        return sign

    def read_to_a_leaf(self):
        while self.read_beginning() not in ("t", "c"):
            pass

    def read_formula(self):
        self.read_to_a_leaf()
        while self.waiting:
            part = self.waiting.pop()
            if part[0] == "(":
                self.pass_over("&")
                self.waiting.append(("&", 0))
                self.read_to_a_leaf()
            else:
                if part[0] == "&":
                    self.pass_over(")")
                self.parts.append(part)


def is_number(digits, most):
    # The length is asked first: Python doesn't make a number of very many digits.
    if not 1 <= len(digits) <= len(str(most)):
        return False
    return digits == str(int(digits)) and int(digits) <= most


def parts_of(text):
    if len(text) > MOST_BYTES:
        raise TooLong()
    reader = Reader("".join([SIGNS.get(byte, OTHER) for byte in text]))
    reader.read_formula()
    if reader.at < len(text):
        raise Fault(reader.at)
    return reader.parts
