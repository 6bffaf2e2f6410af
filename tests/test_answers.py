"""How calls are handed in and answers given back."""

import unittest

from snippets.filling import answers
from tests.helper import NEXT, PREV, desk_after, expand, joined, template, text, typing

CALLS = joined([
    text("  a\nb"), template(0, "${1:x${2:y}}$2${1/u}\n$S"), template(11, ""), template(1, "$"), template(2, "${1/u}"),
    expand(0, 2, 5), typing(1, 1, "q"), expand(0, 0, 1), NEXT, NEXT, PREV, typing(9, 9, ""), text([256]), expand(5, 0, 0),
])


class AnswersTest(unittest.TestCase):
    def test_form(self):
        self.assertEqual(answers([0, 2, 104, 105]), [1, 2])
        self.assertEqual(answers([0, 0, 1, 0, 2, 36, 49, 2, 0, 0, 0, 3, 0, 0, 1, 97, 4, 5, 4, 4, 4]), [
            1, 0, 1, 2, 5, 1, 0, 1, 0, 0, 5, 1, 1, 1, 0, 1, 5, 1, 1, 0, 1, 1, 5, 1, 1, 1, 0, 1, 5, 1, 1, 0, 1, 1,
            2, 0, 1, 1, -3])

    def test_a_refusal_is_its_number_alone(self):
        self.assertEqual(answers([4, 5, 2, 0, 0, 0, 0, 1, 256, 1, 0, 1, 36]), [1, -3, 1, -3, 1, -2, 1, -1, 1, -1001])

    def test_what_is_handed_in_is_not_changed(self):
        handed = list(CALLS)
        answers(handed)
        self.assertEqual(handed, CALLS)

    def test_the_same_again(self):
        first = answers(CALLS)
        self.assertEqual(answers(CALLS), first)
        self.assertEqual(answers([2, 0, 0, 0]), [1, -2])
        self.assertEqual(answers(list(CALLS)), first)

    def test_what_is_given_back_is_new(self):
        first = answers(CALLS)
        kept = list(first)
        first.append(7)
        first[0] = 9
        self.assertEqual(answers(CALLS), kept)

    def test_whole_numbers_alone(self):
        given = answers(CALLS)
        self.assertIs(list, given.__class__)
        self.assertEqual({number.__class__ for number in given}, {int})

    def test_forty_calls(self):
        self.assertEqual(answers([4] * 40), [1, -3] * 40)

    # What undo will go back to: each change keeps what was ahead of it, refusals and templates keep nothing.
    def test_what_was_ahead_of_each_change_is_kept(self):
        start = [text("a"), template(0, "$1"), expand(0, 0, 0), typing(0, 0, "b"), NEXT, PREV, NEXT, NEXT]
        desk = desk_after(*start, typing(0, 9, ""), PREV, template(0, ""))
        self.assertEqual([standing.at for standing in desk.earlier], [-1, 1, 1, 0, 1, 0])
        self.assertEqual(desk_after(*start, text("")).earlier, [])


if __name__ == "__main__":
    unittest.main()
