"""holds and where: what a formula's text is, where it holds, and the fault of a text that is none."""

import itertools
import random
import unittest

from helper import MOST, building, answered, answers_to, count, fault, fault_by_words, flat, holding, holds, laid
from helper import made_formulas, made_systems, told, questioned, where, written

COLOURS = [0, 255, 7, 0]
ARCS = [(0, 0, 1), (0, 63, 2), (1, 0, 1), (2, 5, 0), (2, 5, 3), (3, 63, 3)]


class Case(unittest.TestCase):
    def expect(self, text, states):
        """The formula holds at just these states, as where and as holds say."""
        asked = [where(text)] + [holds(s, text) for s in range(4)]
        expected = [laid(len(states), states)] + [[1 if s in states else 0] for s in range(4)]
        self.assertEqual(told(COLOURS, ARCS, asked), expected, text)

    def expect_fault(self, text, place):
        asked = [where(text), holds(3, text)]
        self.assertEqual(told(COLOURS, ARCS, asked), [fault(place)] * 2, text)


class Forms(Case):
    def test_everywhere(self):
        self.expect("t", [0, 1, 2, 3])

    def test_colours(self):
        self.expect("c7", [2])
        self.expect("c0", [0, 3])
        self.expect("c255", [1])
        for text in ("c1", "c25", "c254", "c70"):
            self.expect(text, [])

    def test_not(self):
        self.expect("!c0", [1, 2])
        self.expect("!!c0", [0, 3])
        self.expect("!t", [])
        self.expect("!c9", [0, 1, 2, 3])

    def test_both(self):
        self.expect("(t&c0)", [0, 3])
        self.expect("(c0&t)", [0, 3])
        self.expect("(c0&c7)", [])
        self.expect("(!c0&!c7)", [1])
        self.expect("((!c0&!c255)&t)", [2])
        self.expect("(c0&(<0>t&<63>t))", [0])

    def test_some_arc(self):
        self.expect("<0>t", [0, 1])
        self.expect("<63>t", [0, 3])
        self.expect("<5>t", [2])
        self.expect("<0>c255", [0, 1])
        self.expect("<0>c0", [])
        self.expect("<5><0>t", [2])
        self.expect("<5>!<0>t", [2])
        self.expect("<5>(<0>t&!<0>t)", [])
        self.expect("(<5><0>t&<5>!<0>t)", [2])
        self.expect("<63>!<63>t", [0])
        self.expect("!<63><63>t", [0, 1, 2])

    def test_a_label_that_no_arc_has(self):
        for label in (1, 4, 6, 50, 62):
            self.expect(f"<{label}>t", [])
            self.expect(f"!<{label}>t", [0, 1, 2, 3])

    def test_every_colour_and_label(self):
        for colour in range(256):
            self.assertEqual(answered([colour], [], [holds(0, f"c{colour}")]), [1])
        for label in range(64):
            self.assertEqual(answered([0], [(0, label, 0)], [holds(0, f"<{label}>t")]), [1])

    def test_all_32_states(self):
        arcs = [(s, 1, s + 1) for s in range(31)]
        asked = [where("t"), where("<1>t"), where("!<1>t"), where("<1><1>!<1>t")]
        self.assertEqual(told([0] * 32, arcs, asked), [
            laid(32, range(32)), laid(31, range(31)), laid(1, [31]), laid(1, [29])])

    def test_it_is_asked_of_the_system_as_it_is_now(self):
        asked = [where("c1"), [2, 1, 1], where("c1"), where("<0>c1"), [3, 2, 0, 1], where("<0>c1"), [2, 1, 0],
                 where("<0>c1"), where("<0>c0"), [4, 2, 0, 1], where("<0>c0")]
        self.assertEqual(told([0] * 3, [], asked), [
            [0], [0], laid(1, [1]), [0], [0], laid(1, [2]), [0], [0], laid(1, [2]), [1], [0]])

    def test_many_made_formulas(self):
        for turn, (colours, arcs) in enumerate(made_systems(150, 59)):
            trees = made_formulas(20, turn, sorted(set(colours)) + [8], sorted({arc[1] for arc in arcs} | {0}), 7)
            held = [sorted(holding(colours, arcs, tree)) for tree in trees]
            asked = [where(written(tree)) for tree in trees]
            self.assertEqual(questioned(colours, arcs, asked), [laid(len(states), states) for states in held])
            s = turn % len(colours)
            asked = [holds(s, written(tree)) for tree in trees]
            self.assertEqual(questioned(colours, arcs, asked), [[1 if s in states else 0] for states in held])


class Faults(Case):
    def test_the_empty_text(self):
        self.expect_fault("", 0)

    def test_what_begins_no_formula(self):
        for text in ("x", "&", ")", ">", "0", "7", " ", "T", "C5", " t", "\n", "?", "F", "&t", ")t", "-1"):
            self.expect_fault(text, 0)
        for byte in [byte for byte in range(256) if chr(byte) not in "tc!(<"]:
            self.expect_fault([byte], 0)
            self.expect_fault([33, byte], 1)
            self.expect_fault([byte, 116], 0)

    def test_more_must_come(self):
        for text in ("!", "(", "(t", "(t&", "(t&t", "((t&t)", "<", "<5", "<63", "<5>", "c", "!c", "(c7", "(c7&c7",
                     "!!!", "((((", "<1><2>", "<1>(", "(t&<6"):
            self.expect_fault(text, len(text))

    def test_what_is_left_over(self):
        for text, place in [("tt", 1), ("t ", 1), ("t)", 1), ("c7)", 2), ("(t&t))", 5), ("!tt", 2), ("<5>tc0", 4),
                            ("c7t", 2), ("c7c7", 2), ("t&t", 1), ("(t&t)&t", 5), ("t\n", 1), ("c255 ", 4)]:
            self.expect_fault(text, place)
        for byte in range(256):
            self.expect_fault([116, byte], 1)

    def test_a_missing_sign(self):
        for text, place in [("(t)", 2), ("(tt)", 2), ("(t|t)", 2), ("(t t)", 2), ("(t&t&t)", 4), ("(t&t t)", 4),
                            ("(t&)", 3), ("(&t)", 1), ("()", 1), ("<5t", 2), ("<5 >t", 2), ("<5)t", 2), ("<5<5>t", 2),
                            ("!<7&", 3), ("((t&t)t)", 6), ("(t&(t&t)", 8)]:
            self.expect_fault(text, place)

    def test_a_number_that_is_not_there(self):
        for text, place in [("c", 1), ("ct", 1), ("c c7", 1), ("cc7", 1), ("c-1", 1), ("c+1", 1), ("<>t", 1), ("<t", 1),
                            ("< 5>t", 1), ("<-5>t", 1), ("(c&t)", 2), ("!<", 2), ("<5><>t", 4)]:
            self.expect_fault(text, place)

    def test_a_number_too_large(self):
        for text, place in [("c256", 1), ("c257t", 1), ("c999", 1), ("c1000", 1), ("c2550", 1), ("c4294967295", 1),
                            ("<64>t", 1), ("<65", 1), ("<64", 1), ("<630>t", 1), ("<255>t", 1), ("<99x", 1),
                            ("!c256", 2), ("(t&c300)", 4), ("(c300&", 2), ("<5><70>t", 4), ("c256x", 1)]:
            self.expect_fault(text, place)

    def test_a_number_of_very_many_digits(self):
        for digit in "1906":
            self.expect_fault("c" + digit * 9000, 1)
            self.expect_fault("!<" + digit * 9000 + ">t", 2)
            self.expect_fault("(t&c" + digit * 300 + ")", 4)

    def test_a_number_with_needless_noughts(self):
        for text, place in [("c00", 1), ("c01", 1), ("c007", 1), ("c0255", 1), ("c000", 1), ("<00>t", 1), ("<01>t", 1),
                            ("<063>t", 1), ("<00", 1), ("!c00", 2), ("(c0&c00)", 5), ("(c00", 2), ("c0000256", 1)]:
            self.expect_fault(text, place)

    def test_a_byte_behind_a_number(self):
        for text, place in [("c7x", 2), ("c0x", 2), ("c25 ", 3), ("(c7x", 3), ("(t&c7&", 5), ("<5x>t", 2),
                            ("<0-1>t", 2), ("<63 ", 3), ("<6c", 2), ("c7.0", 2), ("(c7)", 3)]:
            self.expect_fault(text, place)

    def test_blanks_and_bytes_that_no_formula_has(self):
        for byte in (0, 9, 10, 13, 32, 47, 58, 63, 70, 127, 128, 178, 185, 255):
            for text, place in [("", 0), ("!", 1), ("c", 1), ("c7", 2), ("<", 1), ("<5", 2), ("<5>", 3), ("(", 1),
                                ("(t", 2), ("(t&", 3), ("(t&t", 4), ("t", 1)]:
                self.expect_fault(list(text.encode()) + [byte], place)
                self.expect_fault(list(text.encode()) + [byte] + list(b"t)"), place)

    def test_the_state_says_nothing_of_the_fault(self):
        self.assertEqual(told(COLOURS, ARCS, [holds(s, "(t&x)") for s in range(4)]), [fault(3)] * 4)
        self.assertEqual(told(COLOURS, ARCS, [holds(4, "(t&x)"), holds(MOST, "t")]), [[-1]] * 2)


class FaultsByTheWords(unittest.TestCase):
    def expect_all(self, texts):
        expected = [fault_by_words(text) for text in texts]
        given = questioned([6, 0], [(0, 0, 1), (1, 6, 1)], [where(text) for text in texts])
        for text, place, answer in zip(texts, expected, given):
            if place is None:
                self.assertGreaterEqual(answer[0], 0, text)
            else:
                self.assertEqual(answer, fault(place), text)

    def test_every_text_of_up_to_five_signs(self):
        for length in range(6):
            self.expect_all(["".join(signs) for signs in itertools.product("tc!(&)<>06", repeat=length)])

    def test_formulas_with_a_sign_changed_taken_or_put_in(self):
        source = random.Random(61)
        texts = []
        for tree in made_formulas(3000, 67, (0, 6, 25, 255), (0, 6, 63), 6):
            text = written(tree)
            at = source.randrange(len(text) + 1)
            sign = source.choice("tc!(&)<>0256 ")
            texts += [text, text[:at] + sign + text[at:], text[:at] + sign + text[at + 1:], text[:at] + text[at + 1:],
                      text[:at]]
        self.expect_all([text for text in texts if len(text) < 200])


class Nesting(Case):
    def test_by_not_alone(self):
        self.expect("!" * 499 + "t", [])
        self.expect("!" * 498 + "t", [0, 1, 2, 3])
        self.expect("!" * 499 + "c0", [1, 2])
        self.expect_fault("!" * 500 + "t", 500)
        self.expect_fault("!" * 500 + "c256", 500)
        self.expect_fault("!" * 500, 500)
        self.expect_fault("!" * 501, 500)
        self.expect_fault("!" * 9999 + "t", 500)

    def test_by_arcs_alone(self):
        self.expect("<63>" * 499 + "t", [3])
        self.expect("<0>" * 499 + "c255", [0, 1])
        self.expect_fault("<0>" * 500 + "t", 1500)
        self.expect_fault("<63>" * 500 + "t", 2000)
        self.expect_fault("<0>" * 501, 1500)
        self.expect_fault("<0>" * 500, 1500)
        self.expect_fault("<0>" * 499 + "<64>t", 1498)

    def test_in_brackets_on_the_left(self):
        self.expect("(" * 499 + "c0" + "&t)" * 499, [0, 3])
        self.expect_fault("(" * 500 + "c0" + "&t)" * 500, 500)
        self.expect_fault("(" * 500, 500)
        self.expect_fault("(" * 9999, 500)
        self.expect_fault("(" * 499 + "c0" + "&t)" * 498, 499 + 2 + 3 * 498)

    def test_in_brackets_on_the_right(self):
        self.expect("(t&" * 499 + "c0" + ")" * 499, [0, 3])
        self.expect_fault("(t&" * 500 + "c0" + ")" * 500, 3 * 499 + 1)
        self.expect_fault("(t&" * 499 + "(", 3 * 499 + 1)
        self.expect_fault("(t&" * 499 + "c0" + ")" * 500, 3 * 499 + 2 + 499)

    def test_by_all_of_them_in_turn(self):
        self.expect("(t&" + "!(t&!" * 166 + "c0" + ")" * 167, [0, 3])
        self.expect_fault("(t&!" + "!(t&!" * 166 + "c0" + ")" * 167, 4 + 5 * 166)
        # Each turn goes four deeper; at state 3, that leads to itself, it holds just where its inside does.
        turn, end = "!(!<63>", "&t)"
        self.expect(turn * 124 + "!!!c7" + end * 124, [3])
        self.expect(turn * 124 + "!!!c0" + end * 124, [])
        self.expect_fault(turn * 124 + "!!!!c0" + end * 124, 7 * 124 + 4)
        self.expect_fault(turn * 125 + "!" + end * 125, 7 * 125)
        self.expect_fault("!" + turn * 125 + "t" + end * 125, 1 + 7 * 124 + 3)

    def test_the_right_side_is_as_deep_as_the_left(self):
        deep = "!" * 498 + "t"
        self.expect(f"({deep}&{deep})", [0, 1, 2, 3])
        self.expect_fault(f"({deep}&!{deep})", 1 + len(deep) + 1 + 499)
        self.expect_fault(f"(!{deep}&x)", 500)

    def test_a_fault_ahead_of_it_is_told_first(self):
        self.expect_fault("x" + "!" * 600, 0)
        self.expect_fault("!" * 100 + "c256" + "!" * 600, 101)
        self.expect_fault("(tt" + "!" * 600, 2)
        self.expect_fault("<5" + "!" * 600, 2)
        self.expect_fault("(" + "!" * 400 + "t)" + "!" * 600, 402)

    def test_it_is_told_ahead_of_a_later_one(self):
        self.expect_fault("!" * 500 + "x", 500)
        self.expect_fault("(" * 600 + "x", 500)
        self.expect_fault("!" * 700 + "t)", 500)

    def test_depth_is_left_again(self):
        deep = "!" * 497 + "t"
        text = "(" + "(" + deep + "&" + deep + ")" + "&" + "!" + deep + ")"
        self.expect(text, [])
        self.expect("(" + "!" * 498 + "t&(t&" + "!" * 497 + "c0))", [1, 2])


def text_of(size):
    """A formula of just so many bytes, that holds where the colour is 0."""
    if size > 400:
        first = (size - 3) // 2
        return f"({text_of(first)}&{text_of(size - 3 - first)})"
    inside = "c0" if size % 2 == 0 else "(c0&c0)"
    return "!" * (size - len(inside)) + inside


class Long(Case):
    def test_10000_bytes_and_one_more(self):
        for size in (501, 9999, 10000):
            text = text_of(size)
            self.assertEqual(len(text), size)
            self.assertEqual(told(COLOURS, ARCS, [where(text), holds(0, text)]), [laid(2, [0, 3]), [1]])
            self.assertEqual(told(COLOURS, ARCS, [holds(1, text)]), [[0]])
        for size in (10001, 10002, 14000):
            text = text_of(size)
            self.assertEqual(told(COLOURS, ARCS, [where(text), holds(3, text)]), [[-2]] * 2)

    def test_long_texts_in_one_list_of_30000_numbers(self):
        before = building(COLOURS, ARCS)
        text = text_of(9900)
        calls = before + [where(text), holds(2, text), holds(3, text)]
        left = 30000 - len(flat(calls)) - 2
        calls.append(where("t" * left))
        self.assertEqual(len(flat(calls)), 30000)
        self.assertEqual(answers_to(calls)[len(before):], [laid(2, [0, 3]), [0], [1], fault(1)])

    def test_the_longest_text_that_may_be_handed_in(self):
        for text in ("t" * 29900, "!" * 29900, [255] * 29900):
            self.assertEqual(told([0], [], [where(text), count()]), [[-2], [1]])
            self.assertEqual(told([0], [], [holds(0, text), count()]), [[-2], [1]])


if __name__ == "__main__":
    unittest.main()
