"""The largest likeness there is (promise 1), and after how many steps states part (promise 2)."""

import itertools
import unittest

from helper import answered, arc, building, cut, depth, depth_by_words, init, is_likeness, made_systems
from helper import numbers_of, paint, pairs, same

CHAIN = [(s, 1, s + 1) for s in range(31)]
RING = [(s, 1, (s + 1) % 32) for s in range(32)]


class Case(unittest.TestCase):
    def expect(self, colours, arcs, s, t, steps):
        """s and t part after these steps, or are the same (-2), in both orders."""
        number = 1 if steps == -2 else 0
        asked = [same(s, t), same(t, s), depth(s, t), depth(t, s)]
        self.assertEqual(answered(colours, arcs, asked), [number, number, steps, steps], (colours, arcs, s, t))


class Colours(Case):
    def test_colours_alone(self):
        for s, t, steps in [(0, 1, 0), (0, 2, -2), (1, 3, 0), (2, 3, 0)]:
            self.expect([5, 0, 5, 6], [], s, t, steps)

    def test_the_first_and_the_last_colour(self):
        self.expect([0, 255], [], 0, 1, 0)
        self.expect([255, 255], [], 0, 1, -2)

    def test_colours_tell_before_arcs_do(self):
        self.expect([1, 2, 1], [(0, 0, 0)], 0, 1, 0)
        self.expect([1, 2, 1], [(0, 0, 0)], 0, 2, 1)

    def test_colours_that_an_arc_leads_to(self):
        self.expect([0, 0, 1, 2], [(0, 3, 2), (1, 3, 3)], 0, 1, 1)
        self.expect([0, 0, 1, 1], [(0, 3, 2), (1, 3, 3)], 0, 1, -2)

    def test_a_state_with_itself(self):
        for s in range(3):
            self.expect([0, 7, 0], [(0, 1, 1), (2, 1, 2), (2, 1, 0)], s, s, -2)


class Arcs(Case):
    def test_the_example_of_the_document(self):
        arcs = [(0, 1, 1), (2, 1, 2)]
        self.expect([0, 0, 0], arcs, 0, 2, 2)
        self.expect([0, 0, 0], arcs, 0, 1, 1)
        self.expect([0, 0, 0], arcs, 1, 2, 1)

    def test_no_arcs_at_all(self):
        for s, t in pairs(4):
            self.expect([0] * 4, [], s, t, -2)

    def test_other_labels(self):
        self.expect([0, 0, 0], [(0, 1, 2), (1, 2, 2)], 0, 1, 1)
        self.expect([0, 0, 0], [(0, 1, 2), (1, 1, 2)], 0, 1, -2)
        self.expect([0, 0, 0], [(0, 0, 2), (1, 63, 2)], 0, 1, 1)

    def test_one_label_more(self):
        self.expect([0, 0, 0], [(0, 1, 2), (1, 1, 2), (1, 2, 2)], 0, 1, 1)

    def test_arcs_that_go_round(self):
        self.expect([0, 0, 0], [(0, 1, 0), (1, 1, 2), (2, 1, 1)], 0, 1, -2)
        self.expect([0, 0], [(0, 1, 1), (1, 1, 0)], 0, 1, -2)
        self.expect([0, 0, 0], [(0, 1, 1), (1, 1, 0)], 0, 2, 1)

    def test_rings_of_other_lengths(self):
        rings = [(0, 4, 1), (1, 4, 0), (2, 4, 3), (3, 4, 4), (4, 4, 2)]
        for s, t in pairs(5):
            self.expect([0] * 5, rings, s, t, -2)
        self.expect([1, 0, 1, 0, 0], rings, 0, 2, 2)
        self.expect([1, 0, 1, 0, 0], rings, 1, 4, 3)
        self.expect([1, 0, 1, 0, 0], rings, 1, 3, 1)

    def test_arcs_back_to_where_they_came_from_count_by_their_way_only(self):
        self.expect([0, 0, 0], [(0, 1, 2), (2, 1, 1)], 0, 2, 2)
        self.expect([0, 0, 0], [(2, 1, 0), (2, 1, 1)], 0, 1, -2)

    def test_several_arcs_of_one_label_to_the_same(self):
        arcs = [(0, 1, 2), (0, 1, 3), (1, 1, 3)]
        self.expect([0] * 4, arcs, 0, 1, -2)
        self.expect([0, 0, 0, 1], arcs, 0, 1, 1)

    def test_several_arcs_of_one_label_that_only_one_state_follows(self):
        # 0 chooses at once between going on and not; 1 can only go on.
        arcs = [(0, 1, 2), (0, 1, 3), (1, 1, 3), (3, 2, 2)]
        self.expect([0] * 4, arcs, 0, 1, 2)

    def test_the_same_rows_of_labels_are_not_enough(self):
        # Both can do 1 2 and 1 3, but 0 chooses with its first arc.
        arcs = [(0, 1, 2), (0, 1, 3), (2, 2, 5), (3, 3, 5), (1, 1, 4), (4, 2, 5), (4, 3, 5)]
        self.expect([0] * 6, arcs, 0, 1, 2)

    def test_that_each_can_follow_alone_is_not_enough(self):
        # 1 follows 0 and 0 follows 1, but after 1's arc to 4 they change sides.
        arcs = [(0, 1, 2), (2, 2, 3), (1, 1, 2), (1, 1, 4)]
        self.expect([0] * 5, arcs, 0, 1, 2)

    def test_arcs_change_what_is_the_same(self):
        asked = [init(2), same(0, 1), arc(0, 1, 0), same(0, 1), depth(0, 1), arc(1, 1, 0), same(0, 1), depth(0, 1),
                 cut(0, 1, 0), depth(1, 0), cut(1, 1, 0), depth(1, 0), paint(1, 1), depth(1, 0), paint(0, 1),
                 same(0, 1)]
        self.assertEqual(numbers_of(asked), [0, 1, 0, 0, 1, 0, 1, -2, 1, 1, 1, -2, 0, 0, 0, 1])


class ManySteps(Case):
    def test_a_chain_of_32_states(self):
        # State s can go 31 - s steps, so it parts from those before it one step later.
        for s, t, steps in [(0, 1, 31), (0, 31, 1), (1, 2, 30), (7, 9, 23), (30, 31, 1), (0, 30, 2)]:
            self.expect([0] * 32, CHAIN, s, t, steps)

    def test_as_many_steps_as_there_can_be(self):
        for size in range(2, 33):
            chain = [(s, 1, s + 1) for s in range(size - 1)]
            self.expect([0] * size, chain, 0, 1, size - 1)
            self.expect([0] * size, chain + [(0, 1, 0)], 0, 1, size - 1)
            self.expect([0] * size, chain + [(size - 1, 2, size - 1)], 0, 1, size - 1)

    def test_a_ring_of_32_states(self):
        self.expect([0] * 32, RING, 0, 17, -2)
        self.expect([0] * 31 + [9], RING, 0, 1, 30)
        self.expect([0] * 31 + [9], RING, 0, 30, 1)
        self.expect([9 * (s % 16 == 0) for s in range(32)], RING, 3, 19, -2)
        self.expect([9 * (s % 16 == 0) for s in range(32)], RING, 1, 2, 14)

    def test_every_pair_of_a_full_system(self):
        arcs = sorted({(s, s * t % 3, t * t % 32) for s in range(32) for t in range(8)})
        colours = [s // 30 for s in range(32)]
        by_words = depth_by_words(colours, arcs)
        size = 400 - len(building(colours, arcs))
        for at in range(0, 1024, size):
            part = pairs(32)[at:at + size]
            self.assertEqual(answered(colours, arcs, [depth(s, t) for s, t in part]), [by_words[p] for p in part])


class ByTheWords(unittest.TestCase):
    def check(self, colours, arcs):
        by_words = depth_by_words(colours, arcs)
        every = pairs(len(colours))
        asked = [depth(s, t) for s, t in every] + [same(s, t) for s, t in every]
        expected = [by_words[pair] for pair in every] + [1 if by_words[pair] == -2 else 0 for pair in every]
        self.assertEqual(answered(colours, arcs, asked), expected, (colours, arcs))

    def test_every_system_of_three_states_and_one_label(self):
        places = [(s, 1, t) for s, t in pairs(3)]
        for there in itertools.product((False, True), repeat=9):
            arcs = [place for place, put in zip(places, there) if put]
            self.check([0, 0, 0], arcs)
            self.check([0, 3, 0], arcs)

    def test_many_made_systems(self):
        for colours, arcs in made_systems(400, 7):
            self.check(colours, arcs)

    def test_same_is_what_some_likeness_takes_for_alike(self):
        # All relations between two states, one after another, for all systems of two labels.
        relations = [set(itertools.compress(pairs(2), taken)) for taken in itertools.product((0, 1), repeat=4)]
        places = [(s, label, t) for s, t in pairs(2) for label in (0, 63)]
        for there in itertools.product((False, True), repeat=8):
            arcs = [place for place, put in zip(places, there) if put]
            for colours in ([0, 0], [0, 1]):
                likenesses = [taken for taken in relations if is_likeness(colours, arcs, taken)]
                expected = [1 if any(pair in taken for taken in likenesses) else 0 for pair in pairs(2)]
                asked = [same(s, t) for s, t in pairs(2)]
                self.assertEqual(answered(colours, arcs, asked), expected, (colours, arcs))

    def test_same_is_the_largest_likeness(self):
        for colours, arcs in made_systems(100, 11):
            every = pairs(len(colours))
            told = answered(colours, arcs, [same(s, t) for s, t in every])
            taken = {pair for pair, number in zip(every, told) if number == 1}
            self.assertTrue(is_likeness(colours, arcs, taken), (colours, arcs))

    def test_the_way_the_arcs_came_in_says_nothing(self):
        for colours, arcs in made_systems(60, 13):
            asked = [depth(s, t) for s, t in pairs(len(colours))]
            self.assertEqual(answered(colours, arcs, asked), answered(colours, arcs[::-1], asked), (colours, arcs))


if __name__ == "__main__":
    unittest.main()
