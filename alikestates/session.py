"""One object, and what it answers to each call on it.

An answer is a list: the number that is answered, then what else is answered.
"""

from alikestates.calls import FORMS
from alikestates.holding import held_at
from alikestates.likeness import classes_of, groups_by_steps, is_likeness, make_smallest, steps_to_part
from alikestates.reading import Fault, TooLong, parts_of
from alikestates.states import System, is_colour, is_label, may_have
from alikestates.telling import formula_that_tells

INIT = 1


def laid_out(number, numbers, text):
    if not numbers and not text:
        return [number]
    return [number, len(numbers)] + numbers + [len(text)] + [ord(sign) for sign in text]


def paint(system, given):
    system.colours[given[0]] = given[1]
    return [0]


def arc(system, given):
    put = tuple(given)
    if put in system.arcs:
        return [1]
    if system.is_full():
        return [-2]
    system.arcs[put] = True
    return [0]


def cut(system, given):
    taken = tuple(given)
    if taken not in system.arcs:
        return [0]
    system.arcs.pop(taken)
    return [1]


def has(system, given):
    return [1 if tuple(given) in system.arcs else 0]


def look(system, given):
    return [system.colours[given[0]]]


def depth_of(system, given):
    return steps_to_part(groups_by_steps(system), given[0], given[1])


def same(system, given):
    return [1 if depth_of(system, given) is None else 0]


def depth(system, given):
    steps = depth_of(system, given)
    return [-2 if steps is None else steps]


def class_number(system, given):
    return [classes_of(system)[given[0]]]


def class_count(system, given):
    return [len(set(classes_of(system)))]


def tell(system, given):
    found = groups_by_steps(system)
    if steps_to_part(found, given[0], given[1]) is None:
        return [-2]
    text = formula_that_tells(system, found, given[0], given[1])
    if text is None:
        return [-7]
    return laid_out(len(text), [], text)


def holds(system, given):
    return [1 if held_at(system, parts_of(given[1]))[given[0]] else 0]


def where(system, given):
    held = held_at(system, parts_of(given[0]))
    found = [s for s, here in enumerate(held) if here]
    return laid_out(len(found), found, "")


def check(system, given):
    return [1 if is_likeness(system, given[0]) else 0]


def quotient(system, given):
    make_smallest(system)
    return [len(system.colours)]


CALLS = {
    2: paint, 3: arc, 4: cut, 5: has, 6: look, 7: same, 8: depth, 9: class_number,
    10: class_count, 11: tell, 12: holds, 13: where, 14: check, 15: quotient,
}


def may_be(system, kind, thing):
    if kind == "state":
        return system.has_state(thing)
    if kind == "label":
        return is_label(thing)
    if kind == "colour":
        return is_colour(thing)
    if kind == "numbering":
        return len(thing) == len(system.colours)
    # A text's refusals come behind -1.
    return True


class Session:
    def __init__(self):
        self.system = None

    def begin(self, size):
        if not may_have(size):
            return [-1]
        self.system = System(size)
        return [0]

    def reply(self, call, given):
        if call == INIT:
            return self.begin(given[0])
        if self.system is None:
            return [-8]
        if not all([may_be(self.system, kind, thing) for kind, thing in zip(FORMS[call], given)]):
            return [-1]
        try:
            return CALLS[call](self.system, given)
        except TooLong:
            return [-2]
        except Fault as e:
            return laid_out(-3, [e.place], "")
