"""How the answers are laid out, and the calls that make a system and look at it."""

import unittest

from alikestates.system import answers
from helper import MOST, answered, arc, building, check, count, cut, depth, flat, has, holds, init, look, number
from helper import numbers_of, paint, quotient, same, tell, told, where

# As many arcs as may be: 32 states with eight labels each.
FULL = [(s, label, (s + label) % 32) for s in range(32) for label in range(8)]


class Layout(unittest.TestCase):
    def test_the_numbers_of_the_calls_and_the_form_of_the_answers(self):
        calls = [1, 3, 2, 1, 7, 3, 0, 5, 2, 3, 0, 5, 2, 5, 0, 5, 2, 6, 1, 7, 0, 2, 8, 0, 2, 4, 0, 5, 2]
        self.assertEqual(answers(calls), [1, 0, 1, 0, 1, 0, 1, 1, 1, 1, 1, 7, 1, 0, 1, 1, 1, 1])

    def test_refusals_are_laid_out_as_one_number(self):
        self.assertEqual(answers([6, 0, 1, 0, 1, 1, 6, 1, 8, 0, 0]), [1, -8, 1, -1, 1, 0, 1, -1, 1, -2])

    def test_the_numbers_of_the_calls_with_rows(self):
        calls = [1, 3, 3, 0, 1, 1, 3, 2, 1, 2, 9, 2, 10, 11, 2, 1, 12, 2, 4, 60, 49, 62, 116, 6, 1, 13, 1, 116]
        calls += [14, 3, 0, 1, 2, 8, 0, 2, 15, 10]
        self.assertEqual(answers(calls), [
            1, 0, 1, 0, 1, 0, 1, 2, 1, 3, 7, 4, 0, 4, 60, 49, 62, 116, 1, 1, 1, 0, 6, 3, 3, 0, 1, 2, 0,
            1, 1, 1, 2, 1, 3, 1, 3])

    def test_a_list_and_a_text_each_with_its_count_before_it(self):
        # where at 0 and 2; tell of c0; the place of a fault
        self.assertEqual(answers([1, 3, 2, 1, 7, 13, 2, 99, 48]), [1, 0, 1, 0, 5, 2, 2, 0, 2, 0])
        self.assertEqual(answers([1, 3, 2, 1, 7, 11, 0, 1]), [1, 0, 1, 0, 5, 2, 0, 2, 99, 48])
        self.assertEqual(answers([1, 3, 13, 2, 33, 99]), [1, 0, 4, -3, 1, 2, 0])
        self.assertEqual(answers([1, 3, 12, 0, 0]), [1, 0, 4, -3, 1, 0, 0])

    def test_a_number_alone_where_list_and_text_are_empty(self):
        # where at no state, tell of the same states, a text that is too long
        self.assertEqual(answers([1, 3, 13, 2, 99, 49]), [1, 0, 1, 0])
        self.assertEqual(answers([1, 3, 11, 0, 1, 14, 0]), [1, 0, 1, -2, 1, -1])
        self.assertEqual(answers([1, 3, 13, 10001] + [116] * 10001), [1, 0, 1, -2])

    def test_rows_between_calls_of_numbers_alone(self):
        asked = [number(2), look(1), where("c5"), has(0, 1, 1), tell(1, 0), same(0, 0), holds(1, "!c5"), count(),
                 check([7, 8, 7]), depth(0, 1), where(""), look(0), quotient(), where("t"), look(2), number(1)]
        self.assertEqual(told([5, 0, 5], [], asked), [
            [0], [0], [2, 2, 0, 2, 0], [0], [2, 0, 2, 99, 48], [1], [1], [2], [1], [0], [-3, 1, 0, 0], [5], [2],
            [2, 2, 0, 1, 0], [-1], [1]])

    def test_one_call_alone(self):
        self.assertEqual(answers([1, 1]), [1, 0])

    def test_four_hundred_calls(self):
        calls = [init(2)] + [paint(1, turn % 256) for turn in range(398)] + [look(1)]
        self.assertEqual(numbers_of(calls), [0] * 399 + [397 % 256])

    def test_what_is_given_back_is_a_list_of_whole_numbers(self):
        given = answers([1, 2, 3, 0, 0, 1, 5, 0, 0, 1, 7, 0, 1, 7, 0, 0, 8, 0, 1])
        self.assertIs(type(given), list)
        self.assertEqual([type(number) for number in given], [int] * 12)


class Init(unittest.TestCase):
    def test_sizes(self):
        for size, number in [(0, -1), (1, 0), (2, 0), (31, 0), (32, 0), (33, -1), (256, -1), (MOST, -1)]:
            self.assertEqual(numbers_of([init(size)]), [number], size)

    def test_just_the_states_below_the_size_are_there(self):
        for size in range(1, 33):
            asked = [init(size)] + [look(s) for s in range(34)]
            self.assertEqual(numbers_of(asked), [0] + [0] * size + [-1] * (34 - size), size)

    def test_a_new_system_has_no_colours_and_no_arcs(self):
        every = [has(s, label, t) for s in range(2) for label in range(64) for t in range(2)]
        self.assertEqual(answered([0, 0], [], every + [look(0), look(1)]), [0] * 258)

    def test_init_behind_another_begins_anew(self):
        before = building([5, 6, 7], [(0, 1, 1), (1, 63, 2)])
        after = [init(3), look(0), look(1), look(2), has(0, 1, 1), has(1, 63, 2), same(0, 1), arc(0, 1, 1)]
        self.assertEqual(numbers_of(before + after)[len(before):], [0, 0, 0, 0, 0, 0, 1, 0])

    def test_init_behind_another_has_the_new_size(self):
        self.assertEqual(numbers_of([init(3), init(2), look(2), look(1)]), [0, 0, -1, 0])
        self.assertEqual(numbers_of([init(2), init(3), look(2), look(3)]), [0, 0, 0, -1])

    def test_init_makes_room_for_arcs_again(self):
        before = building([0] * 32, FULL)
        after = [arc(0, 9, 0), init(32), arc(0, 9, 0)]
        self.assertEqual(numbers_of(before + after)[len(before):], [-2, 0, 0])


class Paint(unittest.TestCase):
    def test_the_colour_is_looked_at(self):
        asked = [paint(1, 9), look(0), look(1), look(2), paint(1, 4), look(1), paint(1, 0), look(1)]
        self.assertEqual(answered([0, 0, 0], [], asked), [0, 0, 9, 0, 0, 4, 0, 0])

    def test_every_colour(self):
        asked = [call for colour in range(199) for call in (paint(0, colour), look(0))]
        self.assertEqual(answered([0], [], asked), [number for colour in range(199) for number in (0, colour)])

    def test_the_last_colour(self):
        asked = [paint(0, 255), look(0), paint(0, 256), look(0)]
        self.assertEqual(answered([0], [], asked), [0, 255, -1, 255])

    def test_the_last_state(self):
        self.assertEqual(answered([0] * 32, [], [paint(31, 1), look(31), look(30)]), [0, 1, 0])


class Arcs(unittest.TestCase):
    def test_arc_cut_and_has(self):
        asked = [has(0, 1, 2), arc(0, 1, 2), has(0, 1, 2), arc(0, 1, 2), cut(0, 1, 2), has(0, 1, 2), cut(0, 1, 2)]
        self.assertEqual(answered([0, 0, 0], [], asked), [0, 0, 1, 1, 1, 0, 0])

    def test_an_arc_is_put_again_after_a_cut(self):
        asked = [arc(0, 1, 1), cut(0, 1, 1), arc(0, 1, 1), has(0, 1, 1), arc(0, 1, 1)]
        self.assertEqual(answered([0, 0], [], asked), [0, 1, 0, 1, 1])

    def test_an_arc_is_told_by_its_three_numbers(self):
        others = [has(1, 1, 0), has(0, 0, 1), has(0, 2, 1), has(0, 1, 0), has(1, 0, 0)]
        self.assertEqual(answered([0, 0], [(0, 1, 1)], others), [0] * 5)
        kept = [cut(1, 1, 0), cut(0, 0, 1), cut(0, 1, 0), has(0, 1, 1)]
        self.assertEqual(answered([0, 0], [(0, 1, 1)], kept), [0, 0, 0, 1])

    def test_a_cut_takes_its_arc_alone(self):
        arcs = [(0, 1, 1), (0, 1, 0), (0, 2, 1), (1, 1, 0)]
        asked = [cut(0, 1, 1)] + [has(s, label, t) for s, label, t in arcs]
        self.assertEqual(answered([0, 0], arcs, asked), [1, 0, 1, 1, 1])

    def test_the_last_label_and_the_last_state(self):
        asked = [arc(31, 63, 31), has(31, 63, 31), cut(31, 63, 31), arc(31, 0, 0), has(31, 0, 0)]
        self.assertEqual(answered([0] * 32, [], asked), [0, 1, 1, 0, 1])

    def test_an_arc_from_a_state_to_itself(self):
        self.assertEqual(answered([0], [], [arc(0, 0, 0), has(0, 0, 0), arc(0, 0, 0)]), [0, 1, 1])

    def test_paint_leaves_the_arcs(self):
        self.assertEqual(answered([0, 0], [(0, 1, 1)], [paint(0, 3), has(0, 1, 1), look(0)]), [0, 1, 3])


class ManyArcs(unittest.TestCase):
    def test_256_arcs_are_put(self):
        self.assertEqual(numbers_of(building([0] * 32, FULL)), [0] * 257)

    def test_one_more_is_refused_and_is_not_there(self):
        self.assertEqual(answered([0] * 32, FULL, [arc(0, 9, 0), has(0, 9, 0), arc(0, 9, 0)]), [-2, 0, -2])

    def test_one_that_is_there_already_is_told_as_that(self):
        self.assertEqual(answered([0] * 32, FULL, [arc(0, 0, 0), arc(31, 7, 6), arc(0, 9, 0)]), [1, 1, -2])

    def test_after_a_cut_there_is_room_for_one(self):
        asked = [cut(0, 0, 0), arc(0, 9, 0), has(0, 9, 0), arc(0, 0, 0), has(0, 0, 0)]
        self.assertEqual(answered([0] * 32, FULL, asked), [1, 0, 1, -2, 0])

    def test_a_cut_of_what_is_not_there_makes_no_room(self):
        self.assertEqual(answered([0] * 32, FULL, [cut(0, 9, 0), arc(0, 9, 0)]), [0, -2])

    def test_the_255th_and_the_256th(self):
        asked = [arc(31, 7, 6), arc(31, 7, 5), arc(31, 7, 6)]
        self.assertEqual(answered([0] * 32, FULL[:255], asked), [0, -2, 1])

    def test_256_arcs_are_counted_in_all_not_by_state(self):
        arcs = [(0, label, t) for label in range(64) for t in range(4)]
        asked = [arc(1, 0, 1), arc(0, 63, 3), same(0, 1), depth(0, 1), depth(1, 2)]
        self.assertEqual(answered([0] * 4, arcs, asked), [-2, 1, 0, 1, -2])


class Unchanging(list):
    """A list that fails the test of whoever changes it, even for a while."""

    def refuse(self, *given, **named):
        raise AssertionError("what was handed in is changed")

    append = extend = insert = pop = remove = clear = reverse = sort = refuse
    __setitem__ = __delitem__ = __iadd__ = __imul__ = refuse


class NothingKept(unittest.TestCase):
    def test_what_is_handed_in_stays_as_it_was(self):
        calls = flat(building([1, 0, 2], [(0, 1, 1), (2, 1, 2)]))
        calls += [4, 0, 1, 1, 7, 0, 2, 8, 0, 2, 6, 9, 1, 33, 9, 2, 10, 11, 2, 0, 12, 0, 2, 33, 116, 13, 1, 116]
        calls += [14, 3, 0, 1, 2, 14, 1, 9, 13, 0, 15, 15, 1, 2, 2, 1, 300]
        kept = list(calls)
        answers(calls)
        self.assertEqual(calls, kept)
        self.assertEqual(answers(Unchanging(calls)), answers(kept))

    def test_the_same_list_answers_the_same_again(self):
        calls = flat(building([0, 0], [(0, 1, 1)]))
        self.assertEqual(answers(calls), [1, 0, 1, 0])
        self.assertEqual(answers(calls), [1, 0, 1, 0])

    def test_a_later_list_begins_with_no_system(self):
        answers([1, 3, 2, 0, 5])
        self.assertEqual(answers([6, 0]), [1, -8])
        self.assertEqual(answers([1, 3, 6, 0]), [1, 0, 1, 0])

    def test_a_quotient_of_one_list_says_nothing_in_the_next(self):
        before = flat(building([0] * 3, [(0, 1, 1), (1, 1, 1)]))
        self.assertEqual(answers(before + [15, 6, 2]), [1, 0, 1, 0, 1, 0, 1, 2, 1, -1])
        self.assertEqual(answers(before + [10, 6, 2]), [1, 0, 1, 0, 1, 0, 1, 2, 1, 0])
        self.assertEqual(answers([10, 15, 13, 1, 116]), [1, -8, 1, -8, 1, -8])

    def test_what_was_given_back_may_be_changed(self):
        given = answers([1, 1, 6, 0])
        given.append(9)
        given[0] = 7
        self.assertEqual(answers([1, 1, 6, 0]), [1, 0, 1, 0])


if __name__ == "__main__":
    unittest.main()
