"""How calls are handed in and answers given back."""

import unittest

from snippets.filling import answers
from tests.helper import LEAVE, NEXT, ORDER, PREV, SHOWS, SPANS, UNDO, ask, choose, codes, expand, joined
from tests.helper import template, text, typing

# Forty calls, all kinds of them, one behind another, each with its answer.
FORTY = [
    (text("  ab"), [4]),
    (template(0, "f(${1|x,yy|})\n$1=${2:$S${3:z}}"), [4]),
    (template(1, "<${1:q}${1/u}>"), [2]),
    (template(2, "$"), [-1001]),
    (UNDO, [-7]),
    (NEXT, [-3]),
    (expand(0, 2, 4), [1, 14, 1, 4, 5]),
    (ORDER, [4, 0, 1, 2, 3, 0]),
    (SPANS, [5, 1, 0, 4, 5, 1, 1, 9, 10, 2, 0, 11, 14, 3, 0, 13, 14, 0, 0, 14, 14]),
    (choose(1), [1, 16, 1, 4, 6]),
    (SHOWS, [16] + codes("  f(yy)\n  yy=abz")),
    (choose(2), [-2]),
    (expand(1, 1, 2), [1, 22, 11, 6, 7]),
    (typing(1, 1, "r"), [1, 26, 11, 6, 8]),
    (ORDER, [6, 1, 1, 11, 10, 2, 3, 0]),
    (PREV, [1, 26, 1, 4, 11]),
    (PREV, [-6]),
    (choose(0), [1, 14, 1, 4, 5]),
    (ORDER, [4, 0, 1, 2, 3, 0]),
    (UNDO, [1, 26, 1, 4, 11]),
    (UNDO, [1, 26, 11, 6, 8]),
    (NEXT, [1, 26, 10, 11, 11]),
    (choose(0), [-6]),
    (NEXT, [1, 26, 2, 23, 26]),
    (typing(2, 3, ""), [1, 25, 2, 23, 25]),
    (ORDER, [5, 3, 1, 11, 10, 2, 0]),
    (SPANS, [7, 1, 0, 4, 11, 11, 0, 6, 8, 11, 2, 8, 10, 10, 0, 11, 11, 1, 1, 15, 22, 2, 0, 23, 25, 0, 0, 25, 25]),
    (LEAVE, [0, 25]),
    (SPANS, [-3]),
    (SHOWS, [25] + codes("  f(y<qrQR>)\n  y<qrQR>=ab")),
    (UNDO, [1, 25, 2, 23, 25]),
    (UNDO, [1, 26, 2, 23, 26]),
    (NEXT, [1, 26, 3, 25, 26]),
    (text([256]), [-1]),
    (expand(1, 0, 1), [1, 29, 21, 26, 27]),
    (ORDER, [8, 5, 1, 11, 10, 2, 3, 21, 20, 0]),
    (text(""), [0]),
    (UNDO, [-7]),
    (ORDER, [-3]),
    (SHOWS, [0]),
]
CALLS = joined([call for call, answer in FORTY])


class AnswersTest(unittest.TestCase):
    def test_form(self):
        self.assertEqual(answers([0, 2, 104, 105]), [1, 2])
        self.assertEqual(answers([0, 0, 1, 0, 2, 36, 49, 2, 0, 0, 0, 3, 0, 0, 1, 97, 4, 5, 4, 4, 4]), [
            1, 0, 1, 2, 5, 1, 0, 1, 0, 0, 5, 1, 1, 1, 0, 1, 5, 1, 1, 0, 1, 1, 5, 1, 1, 1, 0, 1, 5, 1, 1, 0, 1, 1,
            2, 0, 1, 1, -3])

    def test_a_refusal_is_its_number_alone(self):
        self.assertEqual(answers([4, 5, 2, 0, 0, 0, 0, 1, 256, 1, 0, 1, 36]), [1, -3, 1, -3, 1, -2, 1, -1, 1, -1001])

    def test_what_is_handed_in_is_not_changed(self):
        handed = list(CALLS)
        answers(handed)
        self.assertEqual(handed, CALLS)

    def test_the_same_again(self):
        first = answers(CALLS)
        self.assertEqual(answers(CALLS), first)
        self.assertEqual(answers([2, 0, 0, 0]), [1, -2])
        self.assertEqual(answers(list(CALLS)), first)

    def test_what_is_given_back_is_new(self):
        first = answers(CALLS)
        kept = list(first)
        first.append(7)
        first[0] = 9
        self.assertEqual(answers(CALLS), kept)

    def test_whole_numbers_alone(self):
        given = answers(CALLS)
        self.assertIs(list, given.__class__)
        self.assertEqual({number.__class__ for number in given}, {int})

    def test_forty_calls(self):
        self.assertEqual(answers([4] * 40), [1, -3] * 40)
        self.assertEqual(answers([8] * 40), [1, 0] * 40)

    def test_forty_calls_of_all_kinds(self):
        self.assertEqual({call[0] for call, answer in FORTY}, set(range(12)))
        self.assertEqual(ask(*[call for call, answer in FORTY]), [answer for call, answer in FORTY])

    # How each list of calls begins does not hang on what comes behind.
    def test_each_beginning_of_the_forty_calls(self):
        for size in range(1, 41):
            given = answers(joined([call for call, answer in FORTY[:size]]))
            self.assertEqual(given, joined([[len(answer)] + answer for call, answer in FORTY[:size]]))

    def test_form_of_the_calls_that_tell(self):
        start = [0, 1, 60, 1, 0, 9] + codes("${1|a,b|}") + [2, 0, 1, 1]
        self.assertEqual(answers(start + [6, 1, 8, 9, 10, 7, 11, 8]), [
            1, 1, 1, 2, 5, 1, 2, 1, 1, 2, 5, 1, 2, 1, 1, 2, 3, 2, 60, 98, 9, 2, 1, 0, 1, 2, 0, 0, 2, 2, 4, 2, 0, 1, 0,
            2, 0, 2, 5, 1, 2, 1, 1, 2, 3, 2, 60, 98])

    def test_refusals_of_the_calls_that_tell_leave_and_undo(self):
        self.assertEqual(answers([6, 4294967295, 7, 9, 10, 11, 8]), [1, -3, 1, -3, 1, -3, 1, -3, 1, -7, 1, 0])


if __name__ == "__main__":
    unittest.main()
