"""Refusals, their order, and that a refused call changes nothing (promise 7)."""

import unittest

from helper import MOST, answered, answers_to, arc, building, check, count, cut, depth, fault, has, holds, init
from helper import laid, look, number, numbers_of, paint, picture, quotient, same, tell, told, where

LARGE = (MOST, 2147483648, 65536, 64 * 256)
COLOURS = [4, 0, 4]
ARCS = [(0, 1, 1), (0, 2, 0), (2, 1, 2)]
LONG = "!" * 10000 + "t"

# Two states whose formula would have far more than 500 bytes: each leads to all lesser ones.
LADDER = [(s, 1, t) for s in range(20) for t in range(s)]


def calls_with(s, label, t, colour):
    """Each call on states but init, with these numbers where they have a place."""
    return [paint(s, colour), arc(s, label, t), cut(s, label, t), has(s, label, t), look(s), same(s, t), depth(s, t),
            number(s), tell(s, t), holds(s, "t")]


def calls_refused(size):
    """Each call of a system of this size with one number, in each place, that isn't there."""
    refused = [init(0), init(33), init(MOST)]
    for state in (size, size + 1) + LARGE:
        refused += calls_with(state, 0, 0, 0)
        refused += [call(0, 0, state) for call in (arc, cut, has)]
        refused += [call(0, state) for call in (same, depth, tell)]
        refused += [call(state, state) for call in (same, depth, tell)]
        refused += [holds(state, "x"), holds(state, "")]
    for label in (64, 65, 128, 256) + LARGE:
        refused += [call(0, label, 0) for call in (arc, cut, has)]
    refused += [paint(0, colour) for colour in (256, 257, 512) + LARGE]
    refused += [check([0] * length) for length in (0, 1, size - 1, size + 1, 32, 1000)]
    return refused


class BeforeThereIsASystem(unittest.TestCase):
    def expect_none(self, calls):
        self.assertEqual(answers_to(calls), [[-8]] * len(calls))

    def test_every_call_but_init(self):
        self.expect_none(calls_with(0, 0, 0, 0) + [count(), where("t"), check([0]), quotient()])

    def test_also_where_a_number_is_too_large(self):
        for large in (32, 33, 64, 256) + LARGE:
            self.expect_none(calls_with(large, large, large, large) + calls_with(0, large, 0, large))

    def test_also_where_a_text_has_a_fault_or_is_too_long(self):
        self.expect_none([holds(0, ""), holds(MOST, "x"), where(""), where("(t&t"), where("c256"), where([0, 255])])
        self.expect_none([holds(MOST, LONG)])
        self.expect_none([where(LONG), where("x" * 10001)])

    def test_also_where_a_list_has_the_wrong_length(self):
        self.expect_none([check([]), check([MOST] * 33), check([1] * 1000)])

    def test_a_refused_init_gives_no_system(self):
        for size in (0, 33, MOST):
            calls = calls_with(0, 0, 0, 0) + [count(), where("t"), where("x"), check([0]), check([]), quotient()]
            self.assertEqual(answers_to([init(size)] + calls), [[-1]] + [[-8]] * len(calls), size)

    def test_the_refused_calls_leave_nothing_behind(self):
        before = [paint(0, 9), arc(0, 1, 1), quotient(), init(0), cut(0, 1, 1)]
        after = [init(2), look(0), has(0, 1, 1), arc(0, 1, 1)]
        self.assertEqual(numbers_of(before + after), [-8, -8, -8, -1, -8, 0, 0, 0, 0])


class NotThere(unittest.TestCase):
    def test_each_call_in_each_place(self):
        for call in calls_refused(3):
            self.assertEqual(answered(COLOURS, ARCS, [call]), [-1], call)

    def test_a_state_that_only_a_larger_system_has(self):
        for size in (1, 2, 31, 32):
            calls = calls_with(size, 0, 0, 0)
            calls += [same(0, size), depth(0, size), tell(0, size), arc(0, 0, size), holds(size, "t")]
            self.assertEqual(answered([0] * size, [], calls), [-1] * len(calls), size)

    def test_a_state_is_not_there_with_itself_either(self):
        self.assertEqual(answered([0, 0], [], [same(2, 2), depth(2, 2), tell(2, 2), arc(2, 0, 2)]), [-1] * 4)

    def test_minus_one_comes_before_too_many_arcs(self):
        full = [(s, label, s) for s in range(32) for label in range(8)]
        asked = [arc(0, 64, 0), arc(32, 0, 0), arc(0, 0, 32), arc(0, 9, 0)]
        self.assertEqual(answered([0] * 32, full, asked), [-1, -1, -1, -2])

    def test_the_limits_are_each_place_s_own(self):
        # 31 is a state, 63 a label and 255 a colour, but not in another's place.
        asked = [paint(63, 0), paint(31, 255), arc(0, 63, 31), arc(0, 31, 63), arc(63, 0, 0), arc(0, 255, 0)]
        self.assertEqual(answered([0] * 32, [], asked), [-1, 0, 0, -1, -1, -1])


class Texts(unittest.TestCase):
    def test_minus_one_comes_before_a_long_text_and_a_fault(self):
        self.assertEqual(told([0, 0], [], [holds(2, LONG)]), [[-1]])
        self.assertEqual(told([0, 0], [], [holds(2, "x"), holds(MOST, ""), holds(2, "t")]), [[-1]] * 3)

    def test_a_long_text_comes_before_its_fault(self):
        for text in (LONG, "t" * 10001, "x" * 10001, [0] * 10001, "!" * 10001, "c" + "0" * 10000, "t" * 29900):
            self.assertEqual(told([0, 0], [], [where(text)]), [[-2]])
            self.assertEqual(told([0, 0], [], [holds(1, text)]), [[-2]])

    def test_a_text_of_as_many_bytes_as_there_may_be(self):
        self.assertEqual(told([0, 0], [], [where("x" * 10000), holds(1, "t" * 10000)]), [fault(0), fault(1)])


class NothingChanged(unittest.TestCase):
    def test_each_refused_call(self):
        shown = answered(COLOURS, ARCS, picture(3))
        for call in calls_refused(3):
            self.assertEqual(answered(COLOURS, ARCS, [call] + picture(3)), [-1] + shown, call)

    def test_a_refused_init_keeps_the_size(self):
        for size in (0, 33, MOST):
            self.assertEqual(answered([0, 0], [], [init(size), look(1), look(2)]), [-1, 0, -1])

    def test_one_arc_too_many(self):
        full = [(s, label, t) for label in range(63, -1, -1) for s in range(2) for t in range(2)]
        shown = answered([0, 0, 0], full, picture(3))
        for refused in (arc(2, 0, 2), arc(0, 63, 2), arc(2, 2, 0)):
            self.assertEqual(answered([0, 0, 0], full, [refused] + picture(3)), [-2] + shown)

    def test_depth_and_tell_of_the_same(self):
        shown = answered(COLOURS, ARCS, picture(3))
        for call in (depth(0, 0), tell(0, 0)):
            self.assertEqual(answered(COLOURS, ARCS, [call] + picture(3)), [-2] + shown)

    def test_texts_that_are_no_formulas(self):
        shown = told(COLOURS, ARCS, picture(3))
        for text in ("", "x", "(t&t", "c256", "!" * 501):
            for call in (holds(0, text), where(text)):
                self.assertEqual(told(COLOURS, ARCS, [call] + picture(3))[1:], shown, text)
        for call in (holds(0, LONG), where(LONG)):
            self.assertEqual(told(COLOURS, ARCS, [call] + picture(3)), [[-2]] + shown)

    def test_a_formula_that_is_not_told(self):
        shown = answered([0] * 20, LADDER, [has(19, 1, 18), depth(19, 18), look(19), count()])
        asked = [tell(19, 18), has(19, 1, 18), depth(19, 18), look(19), count()]
        self.assertEqual(answered([0] * 20, LADDER, asked), [-7] + shown)

    def test_the_questions_change_nothing(self):
        shown = told(COLOURS, ARCS, picture(3))
        asked = [number(1), count(), tell(0, 1), tell(2, 0), holds(0, "<1>c0"), where("<1>t"), check([0, 1, 2]),
                 check([0, 1, 0])]
        answers = [[1], [3], laid(2, text="c4"), laid(5, text="<1>c4"), [1], laid(2, [0, 2]), [1], [0]]
        self.assertEqual(told(COLOURS, ARCS, asked + picture(3) + asked), answers + shown + answers)
        self.assertEqual(told(COLOURS, ARCS, picture(3) + picture(3)), shown + shown)

    def test_many_refused_calls_one_behind_another(self):
        shown = answered(COLOURS, ARCS, picture(3))
        refused = calls_refused(3)
        self.assertLess(len(building(COLOURS, ARCS) + refused + picture(3)), 400)
        self.assertEqual(answered(COLOURS, ARCS, refused + picture(3)), [-1] * len(refused) + shown)


if __name__ == "__main__":
    unittest.main()
