"""The calls next, prev and leave."""

import unittest

from tests.helper import LEAVE, NEXT, ORDER, PREV, SPANS, all_after, ask, choose, expand, last, template, text
from tests.helper import text_after, typing


class MovesTest(unittest.TestCase):
    def test_nothing_is_filled_in(self):
        self.assertEqual(ask(NEXT, PREV), [[-3], [-3]])
        self.assertEqual(ask(text("abc"), NEXT, PREV), [[3], [-3], [-3]])

    def test_over_all_places_and_out(self):
        calls = [text("<>"), template(0, "${0:z}${9:i}${1:a}${5:e}"), expand(0, 1, 1)] + [NEXT] * 5
        self.assertEqual(ask(*calls)[2:], [
            [1, 6, 1, 3, 4], [1, 6, 5, 4, 5], [1, 6, 9, 2, 3], [1, 6, 0, 1, 2], [0, 6], [-3]])
        self.assertEqual(text_after(*calls), "<ziae>")

    def test_back_over_all_places(self):
        calls = [template(0, "${2:b}${1:a}"), expand(0, 0, 0), NEXT, NEXT, PREV, PREV, PREV]
        self.assertEqual([answer[:3] for answer in ask(*calls)[1:]], [
            [1, 2, 1], [1, 2, 2], [1, 2, 0], [1, 2, 2], [1, 2, 1], [-6]])

    def test_refused_prev_leaves_all(self):
        calls = [template(0, "$1${2:b}"), expand(0, 0, 0), PREV]
        self.assertEqual(last(*calls), [-6])
        self.assertEqual(last(*calls, NEXT), [1, 1, 2, 0, 1])
        self.assertEqual(last(*calls, typing(0, 0, "a")), [1, 2, 1, 0, 1])

    def test_place_0_alone(self):
        calls = [template(0, "ab"), expand(0, 0, 0)]
        self.assertEqual(last(*calls, PREV), [-6])
        self.assertEqual(ask(*calls, NEXT, NEXT)[-2:], [[0, 2], [-3]])

    def test_moving_keeps_places_in_a_place(self):
        calls = [template(0, "${1:a${2:b}}$2"), expand(0, 0, 0), NEXT, PREV, NEXT, typing(0, 1, "xy")]
        self.assertEqual(text_after(*calls), "axyxy")

    def test_behind_the_last_the_text_is_bytes(self):
        calls = [template(0, "${1:a}$1"), expand(0, 0, 0), NEXT, NEXT, typing(0, 1, "xy")]
        self.assertEqual(last(*calls), [0, 3])
        self.assertEqual(text_after(*calls), "xya")
        self.assertEqual(ask(*calls, ORDER, SPANS, choose(0))[-3:], [[-3]] * 3)

    def test_next_from_the_last_place_of_a_snippet_within(self):
        calls = [template(0, "<$1>$2"), expand(0, 0, 0), template(1, "ab"), expand(1, 0, 0)]
        self.assertEqual(ask(*calls, NEXT, NEXT, NEXT)[-4:], [
            [1, 4, 10, 3, 3], [1, 4, 2, 4, 4], [1, 4, 0, 4, 4], [0, 4]])

    def test_out_of_a_snippet_put_in_at_the_last_place(self):
        calls = [template(0, "ab"), expand(0, 0, 0), expand(0, 0, 0), NEXT]
        self.assertEqual(ask(*calls)[1:], [[1, 2, 0, 2, 2], [1, 4, 10, 4, 4], [0, 4]])
        self.assertEqual(last(*calls[:3], PREV), [1, 4, 0, 2, 4])

    def test_next_keeps_what_stands_of_mirrors(self):
        calls = [template(0, "${1:ab}-${1/u}-$1"), expand(0, 0, 0), typing(2, 2, "c"), NEXT, NEXT]
        self.assertEqual(text_after(*calls), "abc-ABC-abc")


class LeaveTest(unittest.TestCase):
    def test_nothing_is_filled_in(self):
        self.assertEqual(last(LEAVE), [-3])
        self.assertEqual(ask(text("ab"), LEAVE), [[2], [-3]])
        self.assertEqual(last(template(0, ""), expand(0, 0, 0), LEAVE, LEAVE), [-3])
        self.assertEqual(last(template(0, ""), expand(0, 0, 0), NEXT, LEAVE), [-3])
        self.assertEqual(last(template(0, ""), expand(0, 0, 0), text("a"), LEAVE), [-3])

    def test_at_the_first_place_in_the_middle_and_at_the_last(self):
        start = [text("<>"), template(0, "${1:a}${2:b$1}${1/u}"), expand(0, 1, 1)]
        for moves in ([], [NEXT], [NEXT, NEXT], [NEXT, NEXT, PREV]):
            self.assertEqual(last(*start, *moves, LEAVE), [0, 6])
            self.assertEqual(all_after(*start, *moves, LEAVE), [[6, 60, 97, 98, 97, 65, 62], [-3], [-3]])
            self.assertEqual(ask(*start, *moves, LEAVE, NEXT, PREV, choose(0))[-3:], [[-3]] * 3)

    def test_out_of_a_snippet_within_at_once(self):
        calls = [template(0, "<$1>$1"), expand(0, 0, 0), template(1, "(${1:a})"), expand(1, 0, 0), LEAVE]
        self.assertEqual(last(*calls), [0, 8])
        self.assertEqual(text_after(*calls), "<(a)>(a)")

    def test_the_text_is_bytes_then(self):
        calls = [template(0, "${1:a}$1"), expand(0, 0, 0), LEAVE]
        self.assertEqual(text_after(*calls, typing(0, 1, "xy")), "xya")
        self.assertEqual(last(*calls, expand(0, 0, 2)), [1, 2, 11, 0, 1])
        self.assertEqual(last(*calls, expand(0, 0, 2), ORDER), [2, 0, 11, 10])


if __name__ == "__main__":
    unittest.main()
