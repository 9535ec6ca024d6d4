"""quotient: the smallest system that behaves alike (promise 5)."""

import unittest

from helper import answered, arc, classes_by_words, count, cut, depth, has, holding, laid, look, made_formulas
from helper import made_systems, number, paint, pairs, questioned, quotient, same, tell, told, where, written

FULL = [(s, label, (s + label) % 32) for s in range(32) for label in range(8)]


def smallest(colours, arcs):
    """The colours and arcs of the classes, by the words."""
    classes = classes_by_words(colours, arcs)
    shades = [colours[classes.index(c)] for c in range(max(classes) + 1)]
    return shades, sorted({(classes[s], label, classes[t]) for s, label, t in arcs})


def picture_of(size, labels):
    """Each state's colour, and each arc that may be there."""
    return [look(s) for s in range(size + 1)] + [has(s, label, t) for s, t in pairs(size) for label in labels]


def shown_of(colours, arcs, labels):
    """What picture_of is to show of them."""
    there = [(s, label, t) in arcs for s, t in pairs(len(colours)) for label in labels]
    return [[c] for c in colours] + [[-1]] + [[1 if put else 0] for put in there]


class Case(unittest.TestCase):
    def expect(self, colours, arcs):
        shades, kept = smallest(colours, arcs)
        labels = sorted({label for s, label, t in arcs} | {0, 63})
        self.assertEqual(told(colours, arcs, [quotient(), count()]), [[len(shades)]] * 2, (colours, arcs))
        shown = shown_of(shades, kept, labels)
        for at in range(0, len(shown), 200):
            part = picture_of(len(shades), labels)[at:at + 200]
            self.assertEqual(told(colours, arcs, [quotient()] + part)[1:], shown[at:at + 200], (colours, arcs))


class Ordinary(Case):
    def test_states_and_arcs_fall_together(self):
        asked = [quotient(), look(0), look(1), look(2), has(0, 1, 1), has(1, 1, 1), has(1, 1, 0), has(0, 1, 0)]
        self.assertEqual(answered([9, 4, 9, 4], [(0, 1, 1), (2, 1, 3)], asked), [2, 9, 4, -1, 1, 0, 0, 0])

    def test_where_nothing_is_the_same_nothing_changes(self):
        arcs = [(0, 1, 1), (2, 1, 2)]
        asked = [quotient(), has(0, 1, 1), has(2, 1, 2), count(), depth(0, 2), tell(2, 0)]
        self.assertEqual(told([0] * 3, arcs, asked), [[3], [1], [1], [3], [2], laid(7, text="<1><1>t")])

    def test_one_state_and_one_class(self):
        self.expect([3], [(0, 5, 0)])
        self.expect([3] * 32, [])
        self.expect([0] * 32, [(s, 1, (s + 1) % 32) for s in range(32)])

    def test_32_classes(self):
        self.expect([0] * 32, [(s, 1, s + 1) for s in range(31)])

    def test_arcs_of_every_state_of_a_class(self):
        self.expect([0, 0, 1, 1], [(0, 1, 2), (0, 1, 3), (1, 1, 3), (2, 0, 0), (3, 0, 1), (3, 0, 0)])

    def test_calls_behind_it_are_on_the_smallest_system(self):
        asked = [quotient(), paint(2, 1), paint(1, 7), look(1), arc(0, 3, 2), arc(0, 3, 1), cut(0, 1, 1), count(),
                 same(0, 1), number(2), same(0, 3), tell(1, 0), where("c7"), quotient()]
        self.assertEqual(told([9, 4, 9, 4], [(0, 1, 1), (2, 1, 3)], asked), [
            [2], [-1], [0], [7], [-1], [0], [1], [2], [0], [-1], [-1], laid(2, text="c7"), laid(1, [1]), [2]])

    def test_arcs_that_fall_together_make_room(self):
        self.assertEqual(answered([0] * 32, FULL, [arc(0, 9, 0), quotient(), arc(0, 9, 0)]), [-2, 1, 0])
        asked = [quotient()] + [arc(0, label, 0) for label in range(64)] + [count()]
        self.assertEqual(answered([0] * 32, FULL, asked), [1] + [1] * 8 + [0] * 56 + [1])

    def test_256_arcs_that_stay_leave_no_room(self):
        arcs = [(s, s, t) for s in range(32) for t in range(8)]
        self.assertEqual(answered([0] * 32, arcs, [quotient(), arc(0, 9, 0), arc(31, 31, 7)]), [32, -2, 1])


class Promised(Case):
    def test_colours_and_arcs_of_many_made_systems(self):
        for colours, arcs in made_systems(150, 31):
            self.expect(colours, arcs)

    def test_no_two_states_are_the_same_behind_it(self):
        for colours, arcs in made_systems(150, 37):
            size = len(smallest(colours, arcs)[0])
            asked = [quotient()] + [same(s, t) for s, t in pairs(size)] + [number(s) for s in range(size)] + [count()]
            expected = [size] + [1 if s == t else 0 for s, t in pairs(size)] + list(range(size)) + [size]
            self.assertEqual(answered(colours, arcs, asked), expected, (colours, arcs))

    def test_a_second_one_changes_nothing(self):
        for colours, arcs in made_systems(60, 41):
            shades, kept = smallest(colours, arcs)
            labels = sorted({label for s, label, t in arcs})[:2]
            shown = shown_of(shades, kept, labels)[:150]
            asked = [quotient()] * 3 + picture_of(len(shades), labels)[:150]
            self.assertEqual(told(colours, arcs, asked), [[len(shades)]] * 3 + shown, (colours, arcs))

    def test_classes_part_after_as_many_steps_as_their_states(self):
        for colours, arcs in made_systems(60, 43):
            classes = classes_by_words(colours, arcs)
            every = pairs(len(colours))
            before = answered(colours, arcs, [depth(s, t) for s, t in every])
            behind = answered(colours, arcs, [quotient()] + [depth(classes[s], classes[t]) for s, t in every])
            self.assertEqual(behind[1:], before, (colours, arcs))

    def test_every_formula_holds_at_a_state_just_where_it_holds_at_its_class(self):
        for turn, (colours, arcs) in enumerate(made_systems(60, 47)):
            classes = classes_by_words(colours, arcs)
            trees = made_formulas(30, turn, sorted(set(colours)), sorted({arc[1] for arc in arcs} | {0}))
            asked = [where(written(tree)) for tree in trees]
            before = told(colours, arcs, asked)
            behind = told(colours, arcs, [quotient()] + asked)[1:]
            for tree, states, there in zip(trees, before, behind):
                held = holding(colours, arcs, tree)
                self.assertEqual(states, laid(len(held), sorted(held)))
                self.assertEqual(held, {s for s, c in enumerate(classes) if c in there[2:-1]}, (colours, arcs, tree))

    def test_the_formulas_that_tell_go_on_telling(self):
        for colours, arcs in made_systems(40, 53):
            classes = classes_by_words(colours, arcs)
            every = [(s, t) for s, t in pairs(len(colours)) if classes[s] != classes[t]]
            texts = [given[3:] for given in questioned(colours, arcs, [tell(s, t) for s, t in every])]
            asked = [quotient()] + [where(text) for text in texts if text]
            behind = iter(told(colours, arcs, asked)[1:])
            for (s, t), text in zip(every, texts):
                if text:
                    states = next(behind)[2:-1]
                    self.assertIn(classes[s], states)
                    self.assertNotIn(classes[t], states)


if __name__ == "__main__":
    unittest.main()
