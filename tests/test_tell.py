"""tell: the formula that tells one state from another (promise 3)."""

import itertools
import unittest

from helper import MOST, answered, depth_by_words, formula_by_words, has, holds, laid, made_systems, pairs, questioned
from helper import steps_within, tell, told, where

# Each state leads to all lesser ones: the formulas grow more than twice as long from one to the next.
LADDER = [(s, 0, t) for s in range(8) for t in range(s)]
# Two states above it whose formula has three parts: 7 from 2, 7 from 5 and 7 from 6.
ABOVE = [(8, 2), (8, 5), (8, 7), (9, 2), (9, 5), (9, 6)]


class Case(unittest.TestCase):
    def expect(self, colours, arcs, s, t, text):
        asked = [tell(s, t), holds(s, text), holds(t, text)]
        self.assertEqual(told(colours, arcs, asked), [laid(len(text), text=text), [1], [0]], (colours, arcs, s, t))

    def expect_number(self, colours, arcs, s, t, answer):
        self.assertEqual(answered(colours, arcs, [tell(s, t)]), [answer], (colours, arcs, s, t))


class Ordinary(Case):
    def test_colours_alone(self):
        self.expect([0, 7, 255], [], 0, 1, "c0")
        self.expect([0, 7, 255], [], 1, 0, "c7")
        self.expect([0, 7, 255], [], 2, 1, "c255")
        self.expect([4, 5], [(0, 1, 1), (1, 2, 0)], 0, 1, "c4")

    def test_the_example_of_the_document(self):
        arcs = [(0, 1, 1), (2, 1, 2)]
        self.expect([0] * 3, arcs, 2, 0, "<1><1>t")
        self.expect([0] * 3, arcs, 0, 2, "<1>!<1>t")
        self.expect([0] * 3, arcs, 0, 1, "<1>t")
        self.expect([0] * 3, arcs, 1, 2, "!<1>t")

    def test_no_arc_of_the_other_with_the_label(self):
        self.expect([0, 0], [(0, 63, 1)], 0, 1, "<63>t")
        self.expect([0, 0], [(0, 0, 1)], 1, 0, "!<0>t")
        self.expect([0, 0], [(0, 5, 1), (1, 6, 0)], 0, 1, "<5>t")
        self.expect([0, 0], [(0, 5, 1), (1, 6, 0)], 1, 0, "<6>t")

    def test_one_arc_of_the_other_with_the_label(self):
        self.expect([0, 0, 8, 9], [(0, 5, 2), (1, 5, 3)], 0, 1, "<5>c8")
        self.expect([0, 0, 8, 9], [(0, 5, 2), (1, 5, 3)], 1, 0, "<5>c9")
        self.expect([0, 0, 8, 8], [(0, 5, 2), (1, 5, 3), (2, 1, 0)], 1, 0, "<5>!<1>t")

    def test_several_arcs_of_the_other_with_the_label(self):
        arcs = [(0, 5, 2), (1, 5, 4), (1, 5, 3)]
        self.expect([0, 0, 8, 9, 7], arcs, 0, 1, "<5>(c8&c8)")
        self.expect([0, 0, 8, 9, 7], arcs, 1, 0, "<5>c9")
        self.expect([0, 0, 8, 9, 7, 6], arcs + [(1, 5, 5)], 0, 1, "<5>(c8&(c8&c8))")
        # 1's arc to 4 is followed at first, and not when one looks further.
        arcs = [(0, 5, 2), (2, 1, 2), (0, 5, 3), (1, 5, 3), (1, 5, 4)]
        self.expect([0, 0, 8, 9, 8], arcs, 0, 1, "<5>(c8&<1>t)")
        self.expect([0, 0, 8, 9, 8], arcs, 1, 0, "<5>(!<1>t&c8)")

    def test_the_parts_come_in_rising_order_of_the_states(self):
        # 2 from 3, 4, 5 and 6, whatever way the arcs came in.
        colours = [0, 0, 8, 8, 7, 8, 8]
        arcs = [(2, 1, 4), (2, 2, 4), (3, 1, 4), (5, 2, 4), (0, 5, 4), (0, 5, 2)]
        for way in itertools.permutations((3, 4, 5, 6)):
            self.expect(colours, arcs + [(1, 5, t) for t in way], 0, 1, "<5>(<2>t&(c8&(<1>t&<1>t)))")

    def test_each_of_those_that_are_the_same_has_its_part(self):
        self.expect([0, 0, 8, 9, 9, 9], [(0, 5, 2), (1, 5, 3), (1, 5, 4), (1, 5, 5)], 0, 1, "<5>(c8&(c8&c8))")

    def test_the_first_arc_that_none_follows_by_label(self):
        colours = [0, 0, 8, 9]
        self.expect(colours, [(0, 6, 2), (0, 5, 3), (1, 5, 2), (1, 6, 3)], 0, 1, "<5>c9")
        self.expect(colours, [(0, 5, 2), (0, 6, 2), (1, 5, 2), (1, 6, 3)], 0, 1, "<6>c8")
        self.expect(colours, [(0, 10, 2), (0, 9, 3)], 0, 1, "<9>t")

    def test_the_first_arc_that_none_follows_by_where_it_leads(self):
        colours = [0, 0, 8, 9, 7]
        for way in itertools.permutations([(0, 5, 2), (0, 5, 3), (0, 5, 4), (1, 5, 2)]):
            self.expect(colours, way, 0, 1, "<5>c9")
        for way in itertools.permutations([(0, 5, 2), (0, 5, 3), (0, 5, 4), (1, 5, 3)]):
            self.expect(colours, way, 0, 1, "<5>c8")

    def test_an_arc_is_followed_if_its_end_is_alike_for_one_step_less(self):
        # 0's arc to 2 is followed by 1's to 3 as far as one step shows, though not for ever.
        colours = [0, 0, 0, 0, 0, 0, 9]
        arcs = [(2, 1, 4), (3, 1, 4), (4, 1, 6), (0, 1, 2), (1, 1, 3), (3, 1, 5), (0, 2, 6)]
        self.expect(colours, arcs, 0, 1, "<2>t")
        self.expect(colours, arcs, 1, 0, "!<2>t")
        self.expect(colours, arcs, 2, 3, "!<1>!<1>t")
        self.expect(colours, arcs, 3, 2, "<1>!<1>t")

    def test_no_such_arc_of_the_first(self):
        self.expect([0, 0, 8], [(1, 5, 2)], 0, 1, "!<5>t")
        self.expect([0, 0, 8, 9], [(0, 5, 2), (1, 5, 2), (1, 5, 3)], 0, 1, "!<5>c9")
        self.expect([0, 0, 0, 0], [(0, 5, 2), (1, 5, 3), (3, 5, 3)], 0, 1, "<5>!<5>t")

    def test_the_last_states_and_labels(self):
        self.expect([0] * 30 + [255, 254], [(28, 63, 30), (29, 63, 31)], 28, 29, "<63>c255")
        self.expect([0] * 32, [(31, 63, 31)], 31, 30, "<63>t")


class Long(Case):
    def test_as_deep_as_it_can_be(self):
        chain = [(s, 1, s + 1) for s in range(31)]
        self.expect([0] * 32, chain, 0, 1, "<1>" * 31 + "t")
        self.expect([0] * 32, chain, 1, 0, "<1>" * 30 + "!<1>t")
        self.expect([0] * 32, chain, 0, 31, "<1>t")
        ring = [(s, 63, (s + 1) % 32) for s in range(32)]
        self.expect([0] * 31 + [9], ring, 1, 0, "<63>" * 30 + "c9")
        self.expect([0] * 31 + [9], ring, 0, 1, "<63>" * 30 + "c0")

    def test_500_bytes_are_answered(self):
        arcs = LADDER + [(s, 0, t) for s, t in ABOVE]
        text = formula_by_words([0] * 10, arcs)(8, 9)
        self.assertEqual(len(text), 500)
        self.expect([0] * 10, arcs, 8, 9, text)

    def test_501_bytes_are_too_many(self):
        # The same but for a label of two digits at the whole's beginning.
        self.expect_number([0] * 10, LADDER + [(s, 10, t) for s, t in ABOVE], 8, 9, -7)
        # 9 from 8 is 6 from 2, from 5 and from 7: the last is a byte longer than 7 from 6.
        text = formula_by_words([0] * 8, LADDER)(6, 7)
        self.assertEqual(len(text), 318)
        self.expect([0] * 8, LADDER, 6, 7, text)
        self.expect_number([0] * 10, LADDER + [(s, 0, t) for s, t in ABOVE], 9, 8, -7)

    def test_formulas_that_grow_from_one_to_the_next(self):
        text = "<0>t"
        inside = []
        for t in range(7):
            self.expect([0] * 8, LADDER, 7, t, text)
            if t < 6:
                self.expect([0] * 8, LADDER, t, 7, "!" + text)
            inside.append(text)
            text = "<0>" + "".join(f"({part}&" for part in inside[:-1]) + inside[-1] + ")" * (len(inside) - 1)
        self.assertEqual(len(text), 637)

    def test_formulas_of_very_many_millions_of_bytes(self):
        arcs = [(s, 0, t) for s in range(23) for t in range(s)]
        self.assertEqual(len(arcs), 253)
        asked = [tell(22, 21), tell(21, 22), tell(22, 7), tell(7, 22), has(22, 0, 21)]
        self.assertEqual(answered([0] * 23, arcs, asked), [-7, -7, -7, -7, 1])
        self.assertEqual(told([0] * 23, arcs, [tell(22, 1)]), [laid(7, text="<0><0>t")])
        # 32 states, each of which leads to the eight before it.
        arcs = [(s, 0, t) for s in range(32) for t in range(max(0, s - 8), s)]
        self.assertEqual(answered([0] * 32, arcs, [tell(31, 30), tell(30, 31), tell(31, 20)]), [-7] * 3)


class Refused(Case):
    def test_the_same_states(self):
        for s, t in pairs(4):
            self.expect_number([7] * 4, [], s, t, -2)
        self.expect_number([0, 0], [(0, 1, 1), (1, 1, 0)], 0, 1, -2)
        self.expect_number([0, 5], [], 1, 1, -2)

    def test_a_state_that_is_not_there(self):
        for s, t in [(2, 0), (0, 2), (2, 2), (MOST, 0), (0, MOST), (32, 33)]:
            self.expect_number([0, 5], [], s, t, -1)


class ByTheWords(Case):
    def expect_all(self, colours, arcs):
        """Every pair's formula is the one of the words; it holds where it should and looks no deeper than it must."""
        depths = depth_by_words(colours, arcs)
        formula = formula_by_words(colours, arcs)
        parted = [pair for pair in pairs(len(colours)) if depths[pair] != -2]
        texts = [formula(s, t) for s, t in parted]
        given = questioned(colours, arcs, [tell(s, t) for s, t in parted])
        expected = [[-7] if text is None else laid(len(text), text=text) for text in texts]
        self.assertEqual(given, expected, (colours, arcs))
        answers = iter(questioned(colours, arcs, [where(text) for text in texts if text]))
        for (s, t), text in zip(parted, texts):
            if text:
                states = next(answers)[2:-1]
                self.assertIn(s, states, (colours, arcs, text))
                self.assertNotIn(t, states, (colours, arcs, text))
                self.assertLessEqual(steps_within(text), depths[s, t], (colours, arcs, text))
        return len([text for text in texts if text is None])

    def test_every_system_of_three_states_and_one_label(self):
        places = [(s, 1, t) for s, t in pairs(3)]
        for there in itertools.product((False, True), repeat=9):
            self.expect_all([0, 0, 0], list(itertools.compress(places, there)))

    def test_many_made_systems(self):
        for colours, arcs in made_systems(300, 71):
            self.expect_all(colours, arcs)

    def test_systems_with_long_formulas(self):
        self.assertGreater(self.expect_all([0] * 10, LADDER + [(s, 0, t) for s, t in ABOVE]), 0)
        arcs = [(s, 63, t) for s in range(14) for t in range(max(0, s - 5), s)]
        self.assertGreater(self.expect_all([0] * 14, arcs), 0)
        arcs = sorted({(s, s * t % 3, t * t % 32) for s in range(32) for t in range(8)})
        self.expect_all([s // 30 for s in range(32)], arcs)

    def test_the_way_the_arcs_came_in_says_nothing(self):
        for colours, arcs in made_systems(60, 73):
            asked = [tell(s, t) for s, t in pairs(len(colours))]
            self.assertEqual(told(colours, arcs, asked), told(colours, arcs[::-1], asked), (colours, arcs))


if __name__ == "__main__":
    unittest.main()
