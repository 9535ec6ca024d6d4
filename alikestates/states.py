"""A system: states with colours, and the arcs with labels between them."""

MOST_STATES = 32
LAST_COLOUR = 255
LAST_LABEL = 63
MOST_ARCS = 256


class System:
    def __init__(self, size):
        self.colours = [0] * size
        # A dict of True: an arc is there once or not at all.
        self.arcs = {}

    def has_state(self, number):
        return number < len(self.colours)

    def is_full(self):
        return len(self.arcs) >= MOST_ARCS


def may_have(size):
    return 1 <= size <= MOST_STATES


def is_colour(number):
    return number <= LAST_COLOUR


def is_label(number):
    return number <= LAST_LABEL
