"""The largest cases that a list of 30,000 numbers and 400 calls allows are answered within seconds."""

import random
import time
import unittest

from alikestates.system import answers
from helper import answers_to, building, check, count, cut, arc, flat, holds, number, paint, pairs, quotient, same
from helper import depth, tell, where

CHAIN = [(s, 1, s + 1) for s in range(31)]
# A chain on which every state also leads back, so that states part late and have many arcs.
BACK = CHAIN + [(s, 1, t) for s in range(24, 32) for t in range(2, 30)][:225]
SPREAD = random.Random(5).sample([(s, label, t) for s, t in pairs(32) for label in range(3)], 256)
DENSE = [(s, 0, t) for s in range(8) for t in range(32)]
EIGHT = [(s, 0, t) for s in range(32) for t in range(max(0, s - 8), s)]
EACH = [(s, s, (s + label) % 32) for s in range(32) for label in range(8)]
SYSTEMS = [CHAIN, BACK, SPREAD, DENSE, EIGHT, EACH]

MANY_PAIRS = [(s * 7 % 32, s * 11 % 32) for s in range(1, 400) if s % 32]


class Largest(unittest.TestCase):
    def expect_soon(self, colours, arcs, asked):
        """As many of the calls that are asked as one list has room for."""
        before = building(colours, arcs)
        calls = before + asked[:400 - len(before)]
        while len(flat(calls)) > 30000:
            calls.pop()
        numbers = flat(calls)
        begun = time.monotonic()
        given = answers(numbers)
        self.assertLess(time.monotonic() - begun, 10)
        self.assertLess(len(given), 1000000)
        return answers_to(calls)[len(before):]

    def test_questions_on_pairs(self):
        for arcs in SYSTEMS:
            for call in (tell, depth, same):
                self.expect_soon([0] * 32, arcs, [call(s, t) for s, t in MANY_PAIRS])

    def test_tell_of_the_longest_answers(self):
        given = self.expect_soon([0] * 32, CHAIN, [tell(0, 1)] * 400)
        self.assertEqual({answer[0] for answer in given}, {94})

    def test_tell_of_formulas_that_would_be_far_too_long(self):
        given = self.expect_soon([0] * 32, EIGHT, [tell(31, 30), tell(30, 31)] * 200)
        self.assertEqual({answer[0] for answer in given}, {-7})

    def test_classes(self):
        for arcs in SYSTEMS:
            self.expect_soon([0] * 32, arcs, [number(s % 32) for s in range(400)])
            self.expect_soon([0] * 32, arcs, [count()] * 400)

    def test_check(self):
        for arcs in SYSTEMS:
            self.expect_soon([0] * 32, arcs, [check(list(range(32)))] * 400)
            self.expect_soon([0] * 32, arcs, [check([s] * 32) for s in range(400)])
        self.expect_soon([0] * 32, DENSE, [check([1] * 1000)] * 400)

    def test_quotient(self):
        for arcs in SYSTEMS:
            given = self.expect_soon([0] * 32, arcs, [quotient()] * 400)
            self.assertEqual(len({tuple(answer) for answer in given}), 1)

    def test_short_texts_many_times(self):
        for arcs in SYSTEMS:
            self.expect_soon([0] * 32, arcs, [where("<0>" * 23 + "t")] * 400)
            self.expect_soon([0] * 32, arcs, [holds(31, "(<1>t&" * 9 + "c0" + ")" * 9)] * 400)

    def test_long_texts(self):
        branch = "<0>" * 490 + "t"
        text = f"({branch}&" * 5 + branch + ")" * 5
        # Text by text as long as may be, of which all is looked at.
        for arcs in SYSTEMS:
            self.expect_soon([0] * 32, arcs, [where(text)] * 3)
            self.expect_soon([0] * 32, arcs, [where("(" + "!" * 400 + "t&" + "c" + "9" * 9500 + ")")] * 3)
            self.expect_soon([0] * 32, arcs, [where("!" * 29000)])

    def test_changes_and_questions_in_turn(self):
        asked = []
        for s in range(100):
            asked += [paint(s % 32, s), tell(s % 32, 31), quotient(), arc(0, s % 64, 0), cut(0, s % 64, 0), same(0, 0)]
        self.expect_soon([0] * 32, SPREAD, asked)
        self.expect_soon([0] * 32, CHAIN, asked)


if __name__ == "__main__":
    unittest.main()
