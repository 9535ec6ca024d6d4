"""Refusals, their order, and that a refused call changes nothing (promise 7)."""

import unittest

from helper import MOST, answered, arc, building, cut, depth, has, init, look, numbers_of, paint, same

LARGE = (MOST, 2147483648, 65536, 64 * 256)
COLOURS = [4, 0, 4]
ARCS = [(0, 1, 1), (0, 2, 0), (2, 1, 2)]


def calls_with(s, label, t, colour):
    """Each call but init, with these numbers where they have a place."""
    return [paint(s, colour), arc(s, label, t), cut(s, label, t), has(s, label, t), look(s), same(s, t), depth(s, t)]


def calls_refused(size):
    """Each call of a system of this size with one number, in each place, that isn't there."""
    refused = [init(0), init(33), init(MOST)]
    for state in (size, size + 1) + LARGE:
        refused += calls_with(state, 0, 0, 0)
        refused += [call(0, 0, state) for call in (arc, cut, has)]
        refused += [call(0, state) for call in (same, depth)]
        refused += [call(state, state) for call in (same, depth)]
    for label in (64, 65, 128, 256) + LARGE:
        refused += [call(0, label, 0) for call in (arc, cut, has)]
    refused += [paint(0, colour) for colour in (256, 257, 512) + LARGE]
    return refused


def picture(size):
    """Calls that show all there is of a small system with labels 0 to 2 and 63."""
    shown = [look(s) for s in range(size + 1)]
    for s in range(size):
        for t in range(size):
            shown += [has(s, label, t) for label in (0, 1, 2, 63)] + [same(s, t), depth(s, t)]
    return shown


class BeforeThereIsASystem(unittest.TestCase):
    def test_every_call_but_init(self):
        calls = calls_with(0, 0, 0, 0)
        self.assertEqual(numbers_of(calls), [-8] * 7)

    def test_also_where_a_number_is_too_large(self):
        for large in (32, 33, 64, 256) + LARGE:
            calls = calls_with(large, large, large, large) + calls_with(0, large, 0, large)
            self.assertEqual(numbers_of(calls), [-8] * 14, large)

    def test_a_refused_init_gives_no_system(self):
        for size in (0, 33, MOST):
            calls = [init(size)] + calls_with(0, 0, 0, 0)
            self.assertEqual(numbers_of(calls), [-1] + [-8] * 7, size)

    def test_the_refused_calls_leave_nothing_behind(self):
        before = [paint(0, 9), arc(0, 1, 1), init(0), cut(0, 1, 1)]
        after = [init(2), look(0), has(0, 1, 1), arc(0, 1, 1)]
        self.assertEqual(numbers_of(before + after), [-8, -8, -1, -8, 0, 0, 0, 0])


class NotThere(unittest.TestCase):
    def test_each_call_in_each_place(self):
        for call in calls_refused(3):
            self.assertEqual(answered(COLOURS, ARCS, [call]), [-1], call)

    def test_a_state_that_only_a_larger_system_has(self):
        for size in (1, 2, 31, 32):
            calls = calls_with(size, 0, 0, 0) + [same(0, size), depth(0, size), arc(0, 0, size)]
            self.assertEqual(answered([0] * size, [], calls), [-1] * 10, size)

    def test_a_state_is_not_there_with_itself_either(self):
        self.assertEqual(answered([0, 0], [], [same(2, 2), depth(2, 2), arc(2, 0, 2)]), [-1, -1, -1])

    def test_minus_one_comes_before_too_many_arcs(self):
        full = [(s, label, s) for s in range(32) for label in range(8)]
        asked = [arc(0, 64, 0), arc(32, 0, 0), arc(0, 0, 32), arc(0, 9, 0)]
        self.assertEqual(answered([0] * 32, full, asked), [-1, -1, -1, -2])

    def test_the_limits_are_each_place_s_own(self):
        # 31 is a state, 63 a label and 255 a colour, but not in another's place.
        asked = [paint(63, 0), paint(31, 255), arc(0, 63, 31), arc(0, 31, 63), arc(63, 0, 0), arc(0, 255, 0)]
        self.assertEqual(answered([0] * 32, [], asked), [-1, 0, 0, -1, -1, -1])


class NothingChanged(unittest.TestCase):
    def test_each_refused_call(self):
        shown = answered(COLOURS, ARCS, picture(3))
        for call in calls_refused(3):
            self.assertEqual(answered(COLOURS, ARCS, [call] + picture(3)), [-1] + shown, call)

    def test_a_refused_init_keeps_the_size(self):
        for size in (0, 33, MOST):
            self.assertEqual(answered([0, 0], [], [init(size), look(1), look(2)]), [-1, 0, -1])

    def test_one_arc_too_many(self):
        full = [(s, label, t) for label in range(63, -1, -1) for s in range(2) for t in range(2)]
        shown = answered([0, 0, 0], full, picture(3))
        for refused in (arc(2, 0, 2), arc(0, 63, 2), arc(2, 2, 0)):
            self.assertEqual(answered([0, 0, 0], full, [refused] + picture(3)), [-2] + shown)

    def test_depth_of_the_same_changes_nothing(self):
        shown = answered(COLOURS, ARCS, picture(3))
        self.assertEqual(answered(COLOURS, ARCS, [depth(0, 0)] + picture(3)), [-2] + shown)

    def test_the_questions_change_nothing(self):
        shown = answered(COLOURS, ARCS, picture(3))
        asked = picture(3)
        self.assertEqual(answered(COLOURS, ARCS, asked + asked), shown + shown)

    def test_many_refused_calls_one_behind_another(self):
        shown = answered(COLOURS, ARCS, picture(3))
        refused = calls_refused(3)
        self.assertLess(len(building(COLOURS, ARCS) + refused + picture(3)), 400)
        self.assertEqual(answered(COLOURS, ARCS, refused + picture(3)), [-1] * len(refused) + shown)


if __name__ == "__main__":
    unittest.main()
