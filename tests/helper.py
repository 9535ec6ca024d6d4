"""Calls by their names, and the document's words on likeness and formulas, said as plainly as can be."""

import functools
import random
import re

from alikestates.system import answers

MOST = 4294967295


def init(n):
    return [1, n]


def paint(s, colour):
    return [2, s, colour]


def arc(s, label, t):
    return [3, s, label, t]


def cut(s, label, t):
    return [4, s, label, t]


def has(s, label, t):
    return [5, s, label, t]


def look(s):
    return [6, s]


def same(s, t):
    return [7, s, t]


def depth(s, t):
    return [8, s, t]


def number(s):
    return [9, s]


def count():
    return [10]


def tell(s, t):
    return [11, s, t]


def bytes_of(text):
    return list(text.encode("latin-1")) if isinstance(text, str) else list(text)


def holds(s, text):
    return [12, s, len(text)] + bytes_of(text)


def where(text):
    return [13, len(text)] + bytes_of(text)


def check(numbers):
    return [14, len(numbers)] + list(numbers)


def quotient():
    return [15]


def flat(calls):
    return [number for call in calls for number in call]


def laid(number, numbers=(), text=""):
    """An answer as the interface lays it out."""
    if not numbers and not text:
        return [number]
    return [number, len(numbers), *numbers, len(text), *bytes_of(text)]


def fault(place):
    return laid(-3, [place])


def answers_to(calls):
    """What is answered to each of the calls, in order."""
    if len(calls) > 400 or len(flat(calls)) > 30000:
        raise AssertionError("more than one list may have")
    given = answers(flat(calls))
    found = []
    at = 0
    while at < len(given):
        end = at + 1 + given[at]
        found.append(given[at + 1:end])
        at = end
    if at != len(given) or len(found) != len(calls):
        raise AssertionError(f"not an answer for each call: {given}")
    return found


def numbers_of(calls):
    """What is answered to calls that each answer a number alone."""
    given = answers_to(calls)
    if any(len(answer) != 1 for answer in given):
        raise AssertionError(f"not a number alone for each call: {given}")
    return [answer[0] for answer in given]


def building(colours, arcs):
    """The calls that make a system of these colours and arcs."""
    calls = [init(len(colours))]
    calls += [paint(s, colour) for s, colour in enumerate(colours) if colour]
    return calls + [arc(s, label, t) for s, label, t in arcs]


def answered(colours, arcs, asked):
    """What the asked calls answer in the system of these colours and arcs."""
    before = building(colours, arcs)
    return numbers_of(before + asked)[len(before):]


def told(colours, arcs, asked):
    """What each of the asked calls answers in the system of these colours and arcs."""
    before = building(colours, arcs)
    return answers_to(before + asked)[len(before):]


def questioned(colours, arcs, asked):
    """As told, but for however many questions: they are asked in as many lists as they need."""
    before = building(colours, arcs)
    room = 30000 - len(flat(before))
    found = []
    part = []
    for call in asked:
        if len(before) + len(part) == 400 or len(flat(part)) + len(call) > room:
            found += told(colours, arcs, part)
            part = []
        part.append(call)
    return found + told(colours, arcs, part)


def picture(size):
    """Calls that show all there is of a small system with labels 0 to 2 and 63."""
    shown = [look(s) for s in range(size + 1)]
    for s, t in pairs(size):
        shown += [has(s, label, t) for label in (0, 1, 2, 63)] + [same(s, t), depth(s, t)]
    return shown


def pairs(size):
    return [(s, t) for s in range(size) for t in range(size)]


def follows(arcs, s, t, alike):
    """Each arc of s has one of t with its label, that leads to a state alike."""
    return all(
        any(other == label and at == t and alike(u, v) for at, other, v in arcs)
        for start, label, u in arcs if start == s)


def is_likeness(colours, arcs, relation):
    """Whether the relation, a set of pairs, is a likeness by the words."""
    def alike(u, v):
        return (u, v) in relation

    def alike_backwards(v, u):
        return (u, v) in relation

    return all(
        colours[s] == colours[t] and follows(arcs, s, t, alike) and follows(arcs, t, s, alike_backwards)
        for s, t in relation)


def depth_by_words(colours, arcs):
    """For each pair the number that depth is to answer: alike for 0 steps, for 1, and on."""
    size = len(colours)
    alike = {(s, t) for s, t in pairs(size) if colours[s] == colours[t]}
    found = {pair: 0 for pair in pairs(size) if pair not in alike}
    for steps in range(1, size):
        now = alike
        alike = {
            (s, t) for s, t in pairs(size) if colours[s] == colours[t]
            and follows(arcs, s, t, lambda u, v: (u, v) in now)
            and follows(arcs, t, s, lambda u, v: (u, v) in now)}
        for pair in now - alike:
            found[pair] = steps
    for pair in alike:
        found[pair] = -2
    return found


def made_systems(count, seed):
    """Systems of many forms, the same ones for the same seed."""
    source = random.Random(seed)
    for turn in range(count):
        size = source.randint(1, 12)
        labels = source.sample(range(64), source.randint(1, 3))
        shades = source.sample(range(256), source.randint(1, 3))
        colours = [source.choice(shades) if source.random() < 0.3 else shades[0] for s in range(size)]
        arcs = {(source.randrange(size), source.choice(labels), source.randrange(size))
                for put in range(source.randint(0, 3 * size))}
        yield colours, source.sample(sorted(arcs), len(arcs))


def classes_by_words(colours, arcs):
    """The number of each state's class: the classes by their first states."""
    depths = depth_by_words(colours, arcs)
    size = len(colours)
    firsts = [min(t for t in range(size) if depths[s, t] == -2) for s in range(size)]
    return [sorted(set(firsts)).index(first) for first in firsts]


def formula_by_words(colours, arcs):
    """A function of s and t: the formula that tells s from t, or None where it has more than 500 bytes."""
    depths = depth_by_words(colours, arcs)
    ordered = sorted(arcs, key=lambda arc: (arc[1], arc[2]))

    def leading(s, label):
        return sorted(v for start, other, v in arcs if start == s and other == label)

    @functools.lru_cache(maxsize=None)
    def formula(s, t):
        steps = depths[s, t]
        if steps == 0:
            return f"c{colours[s]}"
        for start, label, u in ordered:
            rivals = leading(t, label)
            if start == s and all(0 <= depths[u, v] <= steps - 1 for v in rivals):
                return short(f"<{label}>", joined(formula(u, v) for v in rivals) if rivals else "t")
        return short("!", formula(t, s))

    return formula


def short(*texts):
    """The texts as one, or None where they have more than 500 bytes."""
    if None in texts or len("".join(texts)) > 500:
        return None
    return "".join(texts)


def joined(texts):
    first, *others = texts
    return short("(", first, "&", joined(others), ")") if others else first


def written(tree):
    """The text of a formula that is kept as its parts within one another."""
    if tree[0] == "t":
        return "t"
    if tree[0] == "c":
        return f"c{tree[1]}"
    if tree[0] == "!":
        return "!" + written(tree[1])
    if tree[0] == "&":
        return f"({written(tree[1])}&{written(tree[2])})"
    return f"<{tree[1]}>{written(tree[2])}"


def holding(colours, arcs, tree):
    """The states at which the formula holds."""
    every = set(range(len(colours)))
    if tree[0] == "t":
        return every
    if tree[0] == "c":
        return {s for s in every if colours[s] == tree[1]}
    if tree[0] == "!":
        return every - holding(colours, arcs, tree[1])
    if tree[0] == "&":
        return holding(colours, arcs, tree[1]) & holding(colours, arcs, tree[2])
    reached = holding(colours, arcs, tree[2])
    return {s for s, label, t in arcs if label == tree[1] and t in reached}


def made_formulas(number_of_them, seed, shades=range(4), labels=range(4), deep=5):
    """Formulas of many forms, kept as their parts; the same ones for the same seed."""
    source = random.Random(seed)

    def made(left):
        form = source.choice("tc!&<<" if left else "tc")
        if form == "c":
            return ("c", source.choice(shades))
        if form == "!":
            return ("!", made(left - 1))
        if form == "&":
            return ("&", made(left - 1), made(left - 1))
        return ("<", source.choice(labels), made(left - 1)) if form == "<" else ("t",)

    return [made(source.randint(0, deep)) for turn in range(number_of_them)]


@functools.lru_cache(maxsize=None)
def fallen_together(text):
    """The text, each whole formula in it now an F."""
    before = None
    text = text.replace("F", "?")
    while text != before:
        before = text
        text = re.sub(r"t|c[0-9]+|!F|<[0-9]+>F|\(F&F\)", "F", text)
    return text


def may_begin(text):
    """Whether some formula begins with this text: but for the last whole formula all that's left are openings."""
    return re.fullmatch(r"(!|\((F&)?|<[0-9]+>)*(F|c|<[0-9]*)?", fallen_together(text)) is not None


def fault_by_words(text):
    """The fault of a text that isn't nested too deep, or None for a formula."""
    for at in range(len(text)):
        if not may_begin(text[:at + 1]):
            return at
        digits = re.match("[0-9]*", text[at:]).group()
        if digits and text[:at][-1:] in ("c", "<"):
            if str(int(digits)) != digits or int(digits) > (255 if text[at - 1] == "c" else 63):
                return at
    return None if fallen_together(text) == "F" else len(text)


def steps_within(text):
    """How many times the < > of a formula stand within one another."""
    steps = re.sub(r"<[0-9]+>", "<", text)
    most = 0
    open_steps = [0]
    for sign in steps:
        if sign == "<":
            open_steps[-1] += 1
            most = max(most, open_steps[-1])
        elif sign == "(":
            open_steps += [open_steps[-1]]
        elif sign == "&":
            open_steps[-1] = open_steps[-2]
        elif sign == ")":
            open_steps.pop()
    return most
