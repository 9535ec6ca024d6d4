"""number, count, check: classes by their first states (promise 4), numberings that are a likeness (promise 6)."""

import itertools
import random
import unittest

from helper import MOST, answered, check, classes_by_words, count, cut, arc, init, is_likeness, made_systems, number
from helper import numbers_of, paint, pairs, questioned, same


class Case(unittest.TestCase):
    def expect_classes(self, colours, arcs, classes):
        asked = [number(s) for s in range(len(colours))] + [count()]
        self.assertEqual(answered(colours, arcs, asked), classes + [len(set(classes))], (colours, arcs))


class Numbers(Case):
    def test_classes_by_their_first_states(self):
        self.expect_classes([9, 3, 9, 1, 3], [], [0, 1, 0, 2, 1])
        self.expect_classes([0, 1, 2, 3], [], [0, 1, 2, 3])
        self.expect_classes([0] * 4, [(0, 1, 0), (2, 1, 2)], [0, 1, 0, 1])
        self.expect_classes([0] * 4, [(1, 1, 1), (3, 1, 3)], [0, 1, 0, 1])

    def test_the_example_of_the_document(self):
        self.expect_classes([0, 0, 0], [(0, 1, 1), (2, 1, 2)], [0, 1, 2])

    def test_a_class_that_parts_late_is_numbered_by_its_first_state_all_the_same(self):
        # 0 and 3 part last of all, and 3 is then numbered behind 1 and 2.
        self.expect_classes([0, 5, 0, 0], [(0, 1, 2), (3, 1, 0), (2, 1, 1)], [0, 1, 2, 3])
        self.expect_classes([0, 0, 5, 0, 0], [(0, 1, 2), (3, 1, 2), (1, 1, 0), (4, 1, 3)], [0, 1, 2, 0, 1])

    def test_one_class_alone(self):
        self.expect_classes([7], [], [0])
        self.expect_classes([0] * 32, [], [0] * 32)
        self.expect_classes([4] * 32, [(s, 1, (s + 1) % 32) for s in range(32)], [0] * 32)

    def test_32_classes(self):
        self.expect_classes([0] * 32, [(s, 1, s + 1) for s in range(31)], list(range(32)))
        self.expect_classes([0] * 32, [(s + 1, 1, s) for s in range(31)], list(range(32)))
        self.expect_classes(list(range(255, 223, -1)), [], list(range(32)))

    def test_a_state_that_is_not_there(self):
        asked = [number(s) for s in (2, 3, 32, MOST)] + [number(1), count()]
        self.assertEqual(answered([0, 1], [], asked), [-1, -1, -1, -1, 1, 2])

    def test_paint_arc_and_cut_change_them(self):
        asked = [init(3), count(), paint(0, 1), count(), number(2), arc(1, 0, 0), count(), number(2), arc(2, 0, 0),
                 count(), cut(1, 0, 0), cut(2, 0, 0), paint(0, 0), count(), number(2), init(2), count()]
        self.assertEqual(numbers_of(asked), [0, 1, 0, 2, 1, 0, 3, 2, 0, 2, 1, 1, 0, 1, 0, 0, 1])

    def test_many_made_systems_whatever_way_the_arcs_came_in(self):
        source = random.Random(3)
        for colours, arcs in made_systems(200, 17):
            classes = classes_by_words(colours, arcs)
            for other in (arcs, arcs[::-1], sorted(arcs), source.sample(arcs, len(arcs))):
                self.expect_classes(colours, other, classes)

    def test_two_have_one_number_just_where_they_are_the_same(self):
        for colours, arcs in made_systems(60, 19):
            size = len(colours)
            asked = [number(s) for s in range(size)] + [same(s, t) for s, t in pairs(size)]
            given = answered(colours, arcs, asked)
            expected = [1 if given[s] == given[t] else 0 for s, t in pairs(size)]
            self.assertEqual(given[size:], expected, (colours, arcs))


def numberings(size):
    """Every way to part so many states, told by numbers from 0 on."""
    found = [[0]]
    while len(found[0]) < size:
        found = [way + [further] for way in found for further in range(max(way) + 2)]
    return found


def alike_by(numbers):
    return {(s, t) for s, t in pairs(len(numbers)) if numbers[s] == numbers[t]}


class Checks(Case):
    def expect(self, colours, arcs, numbers, answer):
        self.assertEqual(answered(colours, arcs, [check(numbers)]), [answer], (colours, arcs, numbers))

    def test_the_classes_own_numbers_and_all_apart(self):
        for colours, arcs in made_systems(100, 23):
            self.expect(colours, arcs, classes_by_words(colours, arcs), 1)
            self.expect(colours, arcs, list(range(len(colours))), 1)

    def test_all_together(self):
        self.expect([5, 5, 5], [], [0, 0, 0], 1)
        self.expect([5, 5, 6], [], [0, 0, 0], 0)
        self.expect([0, 0], [(0, 1, 1), (1, 1, 0)], [3, 3], 1)
        self.expect([0, 0], [(0, 1, 1)], [3, 3], 0)
        self.expect([0], [(0, 1, 0)], [MOST], 1)

    def test_other_order_and_large_numbers(self):
        for numbers in ([0, 1, 0, 1], [1, 0, 1, 0], [MOST, MOST - 1, MOST, MOST - 1], [31, MOST, 31, MOST]):
            self.expect([4, 9, 4, 9], [(0, 1, 1), (2, 1, 3)], numbers, 1)
        for numbers in ([0, 1, 1, 0], [MOST, MOST, 7, 8], [MOST] * 4, [MOST, 0, MOST - 1, 0][::-1]):
            self.expect([4, 9, 4, 5], [(0, 1, 1), (2, 1, 3)], numbers, 0)

    def test_other_colours_taken_for_alike(self):
        self.expect([1, 2, 1], [], [0, 0, 1], 0)
        self.expect([1, 2, 1], [], [0, 1, 0], 1)
        self.expect([0, 255], [], [9, 9], 0)

    def test_other_arcs_taken_for_alike(self):
        self.expect([0] * 3, [(0, 1, 2), (1, 2, 2)], [0, 0, 1], 0)
        self.expect([0] * 3, [(0, 1, 2), (1, 1, 2)], [0, 0, 1], 1)
        self.expect([0] * 3, [(0, 1, 2), (0, 2, 2), (1, 1, 2)], [0, 0, 1], 0)
        self.expect([0] * 3, [(1, 1, 2), (0, 1, 2), (1, 2, 2)], [0, 0, 1], 0)

    def test_arcs_to_states_that_are_not_taken_for_alike(self):
        arcs = [(0, 1, 2), (1, 1, 3)]
        self.expect([0] * 4, arcs, [0, 0, 1, 2], 0)
        self.expect([0] * 4, arcs, [0, 0, 1, 1], 1)
        # The two are the same, and yet such a numbering is no likeness: 2 and 3 stand apart in it.
        self.assertEqual(answered([0] * 4, arcs, [same(0, 1), same(2, 3)]), [1, 1])

    def test_it_takes_those_it_parts_for_nothing(self):
        self.expect([0] * 4, [(0, 1, 0), (1, 1, 1)], [0, 0, 1, 2], 1)
        self.expect([0] * 4, [(0, 1, 0), (1, 1, 1)], [0, 1, 2, 2], 1)

    def test_a_list_of_another_length(self):
        for length in (0, 1, 2, 4, 32, 33, 1000):
            self.expect([0] * 3, [], [0] * length, -1)
        self.expect([0] * 32, [], [0] * 31, -1)
        self.expect([0] * 32, [], [0] * 32, 1)
        self.expect([0] * 32, [], [0] * 33, -1)

    def test_it_changes_nothing(self):
        asked = [check([0, 1, 0]), check([0, 0, 0]), check([]), count(), number(2), check([5, 6, 7])]
        self.assertEqual(answered([1, 0, 1], [(0, 1, 1)], asked), [0, 0, -1, 3, 2, 1])


class EveryNumbering(unittest.TestCase):
    def expect_all(self, colours, arcs):
        ways = numberings(len(colours))
        expected = [1 if is_likeness(colours, arcs, alike_by(way)) else 0 for way in ways]
        self.assertEqual(questioned(colours, arcs, [check(way) for way in ways]), [[n] for n in expected])
        # Promise 6: what is taken for alike is the same.
        classes = classes_by_words(colours, arcs)
        taken = [way for way, answer in zip(ways, expected) if answer]
        self.assertIn(classes, taken)
        for way in taken:
            self.assertLessEqual(alike_by(way), alike_by(classes), (colours, arcs, way))

    def test_every_system_of_three_states_and_one_label(self):
        places = [(s, 1, t) for s, t in pairs(3)]
        for there in itertools.product((False, True), repeat=9):
            self.expect_all([0, 0, 0], list(itertools.compress(places, there)))

    def test_made_systems_of_up_to_six_states(self):
        for colours, arcs in made_systems(300, 29):
            if len(colours) <= 6:
                self.expect_all(colours, arcs)


if __name__ == "__main__":
    unittest.main()
