"""One object, and what it answers to each call on it.

An answer is a list: the number that is answered, then what else is answered.
"""

from alikestates.likeness import steps_to_part
from alikestates.states import System, is_colour, is_label, may_have

INIT = 1

# What each number behind a call's own stands for.
FORMS = {
    1: ("size",),
    2: ("state", "colour"),
    3: ("state", "label", "state"),
    4: ("state", "label", "state"),
    5: ("state", "label", "state"),
    6: ("state",),
    7: ("state", "state"),
    8: ("state", "state"),
}


def paint(system, numbers):
    system.colours[numbers[0]] = numbers[1]
    return [0]


def arc(system, numbers):
    put = tuple(numbers)
    if put in system.arcs:
        return [1]
    if system.is_full():
        return [-2]
    system.arcs[put] = True
    return [0]


def cut(system, numbers):
    taken = tuple(numbers)
    if taken not in system.arcs:
        return [0]
    system.arcs.pop(taken)
    return [1]


def has(system, numbers):
    return [1 if tuple(numbers) in system.arcs else 0]


def look(system, numbers):
    return [system.colours[numbers[0]]]


def same(system, numbers):
    return [1 if steps_to_part(system, numbers[0], numbers[1]) is None else 0]


def depth(system, numbers):
    steps = steps_to_part(system, numbers[0], numbers[1])
    return [-2 if steps is None else steps]


CALLS = {2: paint, 3: arc, 4: cut, 5: has, 6: look, 7: same, 8: depth}


def width(call):
    return len(FORMS[call])


def is_there(system, kind, number):
    if kind == "state":
        return system.has_state(number)
    if kind == "label":
        return is_label(number)
    return is_colour(number)


def are_there(system, kinds, numbers):
    return all([is_there(system, kind, number) for kind, number in zip(kinds, numbers)])


class Session:
    def __init__(self):
        self.system = None

    def begin(self, size):
        if not may_have(size):
            return [-1]
        self.system = System(size)
        return [0]

    def reply(self, call, numbers):
        if call == INIT:
            return self.begin(numbers[0])
        if self.system is None:
            return [-8]
        if not are_there(self.system, FORMS[call], numbers):
            return [-1]
        return CALLS[call](self.system, numbers)
