"""Which states are alike, and for how many steps.

The states fall into groups that are alike for k steps. A group's number tells
how many groups have a lesser first state, so two lists of groups are equal
just where they part the states in the same way.
"""


def groups_of(marks):
    numbers = {}
    groups = []
    for mark in marks:
        if mark not in numbers:
            numbers[mark] = len(numbers)
        groups.append(numbers[mark])
    return groups


def marks_for_one_step_more(system, groups):
    steps = [[] for colour in system.colours]
    for s, label, t in system.arcs:
        steps[s].append((label, groups[t]))
    marks = []
    for colour, reached in zip(system.colours, steps):
        # Several arcs to one group count once, in whatever order they came.
        marks.append((colour, tuple(sorted(set(reached)))))
    return marks


def groups_by_steps(system):
    found = []
    groups = groups_of(system.colours)
    # Once a step parts no more states, no later step does: the last groups
    # are the classes of the largest likeness.
    while not found or groups != found[-1]:
        found.append(groups)
        groups = groups_of(marks_for_one_step_more(system, groups))
    return found


def steps_to_part(found, s, t):
    for steps, groups in enumerate(found):
        if groups[s] != groups[t]:
            return steps
    return None


def classes_of(system):
    return groups_by_steps(system)[-1]


def is_likeness(system, numbering):
    marks = {}
    for number, mark in zip(numbering, marks_for_one_step_more(system, numbering)):
        if marks.setdefault(number, mark) != mark:
            return False
    return True


def make_smallest(system):
    classes = classes_of(system)
    colours = []
    for number, colour in zip(classes, system.colours):
        if number == len(colours):
            colours.append(colour)
    arcs = {}
    for s, label, t in system.arcs:
        arcs[(classes[s], label, classes[t])] = True
    system.colours = colours
    system.arcs = arcs
