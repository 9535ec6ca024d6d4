"""Calls by their names, and the document's words on likeness, said as plainly as can be."""

import random

from alikestates.system import answers

MOST = 4294967295


def init(n):
    return [1, n]


def paint(s, colour):
    return [2, s, colour]


def arc(s, label, t):
    return [3, s, label, t]


def cut(s, label, t):
    return [4, s, label, t]


def has(s, label, t):
    return [5, s, label, t]


def look(s):
    return [6, s]


def same(s, t):
    return [7, s, t]


def depth(s, t):
    return [8, s, t]


def numbers_of(calls):
    """What is answered to calls that each answer a number alone."""
    given = answers([number for call in calls for number in call])
    if len(given) != 2 * len(calls) or given[0::2] != [1] * len(calls):
        raise AssertionError(f"not a number alone for each call: {given}")
    return given[1::2]


def building(colours, arcs):
    """The calls that make a system of these colours and arcs."""
    calls = [init(len(colours))]
    calls += [paint(s, colour) for s, colour in enumerate(colours) if colour]
    return calls + [arc(s, label, t) for s, label, t in arcs]


def answered(colours, arcs, asked):
    """What the asked calls answer in the system of these colours and arcs."""
    before = building(colours, arcs)
    return numbers_of(before + asked)[len(before):]


def pairs(size):
    return [(s, t) for s in range(size) for t in range(size)]


def follows(arcs, s, t, alike):
    """Each arc of s has one of t with its label, that leads to a state alike."""
    return all(
        any(other == label and at == t and alike(u, v) for at, other, v in arcs)
        for start, label, u in arcs if start == s)


def is_likeness(colours, arcs, relation):
    """Whether the relation, a set of pairs, is a likeness by the words."""
    def alike(u, v):
        return (u, v) in relation

    def alike_backwards(v, u):
        return (u, v) in relation

    return all(
        colours[s] == colours[t] and follows(arcs, s, t, alike) and follows(arcs, t, s, alike_backwards)
        for s, t in relation)


def depth_by_words(colours, arcs):
    """For each pair the number that depth is to answer: alike for 0 steps, for 1, and on."""
    size = len(colours)
    alike = {(s, t) for s, t in pairs(size) if colours[s] == colours[t]}
    found = {pair: 0 for pair in pairs(size) if pair not in alike}
    for steps in range(1, size):
        now = alike
        alike = {
            (s, t) for s, t in pairs(size) if colours[s] == colours[t]
            and follows(arcs, s, t, lambda u, v: (u, v) in now)
            and follows(arcs, t, s, lambda u, v: (u, v) in now)}
        for pair in now - alike:
            found[pair] = steps
    for pair in alike:
        found[pair] = -2
    return found


def made_systems(count, seed):
    """Systems of many forms, the same ones for the same seed."""
    source = random.Random(seed)
    for turn in range(count):
        size = source.randint(1, 12)
        labels = source.sample(range(64), source.randint(1, 3))
        shades = source.sample(range(256), source.randint(1, 3))
        colours = [source.choice(shades) if source.random() < 0.3 else shades[0] for s in range(size)]
        arcs = {(source.randrange(size), source.choice(labels), source.randrange(size))
                for put in range(source.randint(0, 3 * size))}
        yield colours, source.sample(sorted(arcs), len(arcs))
