"""The calls that only tell: shows, spans, order."""

import unittest

from tests.helper import LEAVE, NEXT, ORDER, PREV, SHOWS, SPANS, UNDO, ask, choose, expand, last, order_after
from tests.helper import spans_after, template, text, typing


class ShowsTest(unittest.TestCase):
    def test_without_bytes(self):
        self.assertEqual(last(SHOWS), [0])
        self.assertEqual(last(text("abc"), text(""), SHOWS), [0])
        self.assertEqual(last(template(0, "$1"), expand(0, 0, 0), SHOWS), [0])

    def test_without_filling_in(self):
        self.assertEqual(last(text([0, 255, 10, 97]), SHOWS), [4, 0, 255, 10, 97])
        self.assertEqual(last(text("ab"), typing(1, 1, "xy"), SHOWS), [4, 97, 120, 121, 98])
        self.assertEqual(last(text("ab"), template(0, "$"), text([256]), SHOWS), [2, 97, 98])
        self.assertEqual(last(text([7] * 300), SHOWS), [300] + [7] * 300)

    def test_while_filling_in(self):
        start = [text("<>"), template(0, "${1:a}-${1/u}"), expand(0, 1, 1)]
        self.assertEqual(last(*start, SHOWS), [5, 60, 97, 45, 65, 62])
        self.assertEqual(last(*start, typing(1, 1, "b"), SHOWS), [7, 60, 97, 98, 45, 65, 66, 62])
        self.assertEqual(last(*start, NEXT, SHOWS), [5, 60, 97, 45, 65, 62])
        self.assertEqual(last(*start, LEAVE, SHOWS), [5, 60, 97, 45, 65, 62])


class SpansTest(unittest.TestCase):
    def check_put(self, row, spans):
        self.assertEqual(spans_after(template(0, row), expand(0, 0, 0)), spans, row)

    def test_nothing_is_filled_in(self):
        self.assertEqual(last(SPANS), [-3])
        self.assertEqual(last(text("abc"), SPANS), [-3])
        start = [template(0, "$1"), expand(0, 0, 0)]
        for out in ([LEAVE], [NEXT, NEXT], [text("a")], [UNDO]):
            self.assertEqual(last(*start, *out, SPANS), [-3])

    def test_form(self):
        self.assertEqual(last(text("ab"), template(0, "x${1:y}"), expand(0, 1, 1), SPANS), [2, 1, 0, 2, 3, 0, 0, 3, 3])

    def test_what_each_is(self):
        self.check_put("${1:aB}$1${1/u}${1/l}${1/c}", [
            (1, 0, 0, 2), (1, 1, 2, 4), (1, 2, 4, 6), (1, 3, 6, 8), (1, 4, 8, 10), (0, 0, 10, 10)])
        self.check_put("$0${0/u}a${0/l}${0/c}${0}", [
            (0, 0, 0, 0), (0, 2, 0, 0), (0, 3, 1, 1), (0, 4, 1, 1), (0, 1, 1, 1)])
        self.check_put("-${3|ab,c|}${3/c}", [(3, 0, 1, 3), (3, 4, 3, 5), (0, 0, 5, 5)])

    def test_a_place_stands_where_it_is_filled_or_first_told(self):
        self.check_put("$1a$1", [(1, 0, 0, 0), (1, 1, 1, 1), (0, 0, 1, 1)])
        self.check_put("$1a${1:b}", [(1, 1, 0, 1), (1, 0, 2, 3), (0, 0, 3, 3)])
        self.check_put("${1/u}a$1", [(1, 2, 0, 0), (1, 0, 1, 1), (0, 0, 1, 1)])
        self.check_put("$0a$1", [(0, 0, 0, 0), (1, 0, 1, 1)])

    def test_as_they_stand_in_the_text_not_by_number(self):
        self.check_put("${3:c}${0:z}${1:a}${2:b}", [(3, 0, 0, 1), (0, 0, 1, 2), (1, 0, 2, 3), (2, 0, 3, 4)])

    def test_places_in_places(self):
        self.check_put("${1:a${2:b${3:c${4:d}}}e}", [
            (1, 0, 0, 5), (2, 0, 1, 4), (3, 0, 2, 4), (4, 0, 3, 4), (0, 0, 5, 5)])
        self.check_put("${4:${3:${2:${1:d}}}}", [(4, 0, 0, 1), (3, 0, 0, 1), (2, 0, 0, 1), (1, 0, 0, 1), (0, 0, 1, 1)])

    def test_mirrors_are_told_without_what_stands_in_them(self):
        self.check_put("${1:a${2:b$3}${2/u}}$1${1/u}$3", [
            (1, 0, 0, 3), (2, 0, 1, 2), (3, 0, 2, 2), (2, 2, 2, 3), (1, 1, 3, 6), (1, 2, 6, 9), (3, 1, 9, 9), (0, 0, 9, 9)])

    def test_what_begins_together_and_is_empty(self):
        self.check_put("$3$1$2$1${3/l}$0", [
            (3, 0, 0, 0), (1, 0, 0, 0), (2, 0, 0, 0), (1, 1, 0, 0), (3, 3, 0, 0), (0, 0, 0, 0)])
        self.check_put("${2:$1}${1/c}${4:${3:}$1}", [
            (2, 0, 0, 0), (1, 0, 0, 0), (1, 4, 0, 0), (4, 0, 0, 0), (3, 0, 0, 0), (1, 1, 0, 0), (0, 0, 0, 0)])

    def test_where_they_begin_when_one_of_them_gets_bytes(self):
        start = [template(0, "$3$1$2$1"), expand(0, 0, 0)]
        self.assertEqual(spans_after(*start, typing(0, 0, "ab")), [
            (3, 0, 0, 0), (1, 0, 0, 2), (2, 0, 2, 2), (1, 1, 2, 4), (0, 0, 4, 4)])
        self.assertEqual(spans_after(*start, typing(0, 0, "ab"), NEXT, typing(0, 0, "c")), [
            (3, 0, 0, 0), (1, 0, 0, 2), (2, 0, 2, 3), (1, 1, 3, 5), (0, 0, 5, 5)])

    def test_a_template_in_a_place_of_another(self):
        start = [text("()"), template(0, "$1|${1/u}"), expand(0, 1, 1), template(1, "<${2:a}$1$2>"), expand(1, 0, 0)]
        self.assertEqual(spans_after(*start), [
            (1, 0, 1, 5), (12, 0, 2, 3), (11, 0, 3, 3), (12, 1, 3, 4), (10, 0, 5, 5), (1, 2, 6, 10), (0, 0, 10, 10)])
        self.assertEqual(spans_after(*start, typing(0, 0, "b")), [
            (1, 0, 1, 6), (12, 0, 2, 3), (11, 0, 3, 4), (12, 1, 4, 5), (10, 0, 6, 6), (1, 2, 7, 12), (0, 0, 12, 12)])

    def test_a_template_in_the_middle_of_a_value(self):
        start = [template(0, "${1:abcd}$2"), expand(0, 0, 0), template(1, "$1$S"), expand(1, 1, 3)]
        self.assertEqual(spans_after(*start), [
            (1, 0, 0, 4), (11, 0, 1, 1), (10, 0, 3, 3), (2, 0, 4, 4), (0, 0, 4, 4)])

    # Ahead of a place in the text, yet put in at another one: where they stand tells, not when they came.
    def test_two_templates_in_two_places(self):
        start = [template(0, "$2$1"), expand(0, 0, 0), template(1, "x"), expand(1, 0, 0), NEXT, expand(1, 0, 0)]
        self.assertEqual(spans_after(*start), [
            (2, 0, 0, 1), (20, 0, 1, 1), (1, 0, 1, 2), (10, 0, 2, 2), (0, 0, 2, 2)])

    def test_gone_places_and_mirrors_are_not_told(self):
        start = [template(0, "${1:a${2:b}$3}$2${2/u}$1$3"), expand(0, 0, 0), typing(0, 1, "c")]
        self.assertEqual(spans_after(*start), [(1, 0, 0, 2), (1, 1, 4, 6), (0, 0, 6, 6)])

    def test_mirrors_in_what_is_typed_over_are_not_told(self):
        start = [template(0, "${1:a}${2:<$1>}$2"), expand(0, 0, 0), NEXT]
        self.assertEqual(spans_after(*start), [(1, 0, 0, 1), (2, 0, 1, 4), (1, 1, 2, 3), (2, 1, 4, 7), (0, 0, 7, 7)])
        self.assertEqual(spans_after(*start, typing(0, 0, "")), [(1, 0, 0, 1), (2, 0, 1, 4), (2, 1, 4, 7), (0, 0, 7, 7)])

    def test_moving_changes_nothing(self):
        start = [template(0, "${1:a${2:b}}$2"), expand(0, 0, 0)]
        first = spans_after(*start)
        self.assertEqual(spans_after(*start, NEXT), first)
        self.assertEqual(spans_after(*start, NEXT, NEXT, PREV), first)


class OrderTest(unittest.TestCase):
    def test_nothing_is_filled_in(self):
        self.assertEqual(last(ORDER), [-3])
        start = [template(0, "$1"), expand(0, 0, 0)]
        for out in ([LEAVE], [NEXT, NEXT], [text("a")], [UNDO]):
            self.assertEqual(last(*start, *out, ORDER), [-3])

    def test_by_their_numbers_then_0(self):
        self.assertEqual(last(template(0, "$0$9$3$1${5:$2}"), expand(0, 0, 0), ORDER), [6, 0, 1, 2, 3, 5, 9, 0])
        self.assertEqual(last(template(0, ""), expand(0, 0, 0), ORDER), [1, 0, 0])
        self.assertEqual(last(template(0, "$9$8$7$6$5$4$3$2$1"), expand(0, 0, 0), ORDER), [
            10, 0, 1, 2, 3, 4, 5, 6, 7, 8, 9, 0])

    def test_at_which_one_is(self):
        start = [template(0, "$1$2"), expand(0, 0, 0)]
        calls = [NEXT, ORDER, NEXT, ORDER, PREV, ORDER, PREV, ORDER]
        self.assertEqual(ask(*start, *calls)[3::2], [[3, 1, 1, 2, 0], [3, 2, 1, 2, 0], [3, 1, 1, 2, 0], [3, 0, 1, 2, 0]])

    def test_ahead_of_and_behind_what_puts_in(self):
        start = [template(0, "$1$2"), expand(0, 0, 0), NEXT, template(1, "$0$4$1")]
        self.assertEqual(last(*start, ORDER), [3, 1, 1, 2, 0])
        self.assertEqual(last(*start, expand(1, 0, 0), ORDER), [6, 2, 1, 2, 11, 14, 10, 0])
        self.assertEqual(last(*start, expand(1, 0, 0), NEXT, expand(1, 0, 0), ORDER), [
            9, 4, 1, 2, 11, 14, 21, 24, 20, 10, 0])
        self.assertEqual(last(*start, NEXT, expand(1, 0, 0), ORDER), [6, 3, 1, 2, 0, 11, 14, 10])

    def test_behind_what_is_typed_over_places(self):
        start = [template(0, "${3:a${1:b}${5:c}}$2"), expand(0, 0, 0)]
        self.assertEqual(last(*start, ORDER), [5, 0, 1, 2, 3, 5, 0])
        self.assertEqual(last(*start, typing(0, 1, "x"), ORDER), [5, 0, 1, 2, 3, 5, 0])
        self.assertEqual(last(*start, NEXT, NEXT, typing(0, 0, ""), ORDER), [3, 1, 2, 3, 0])

    def test_behind_what_is_put_in_over_places(self):
        start = [template(0, "${3:a${1:b}${5:c}}$2"), expand(0, 0, 0), NEXT, NEXT, expand(0, 1, 1)]
        self.assertEqual(last(*start, ORDER), [8, 2, 2, 3, 11, 12, 13, 15, 10, 0])

    def test_choosing_over_places_put_in(self):
        start = [template(0, "${1|a,b|}$2"), expand(0, 0, 0), template(1, "$1"), expand(1, 0, 0), PREV]
        self.assertEqual(last(*start, ORDER), [5, 0, 1, 11, 10, 2, 0])
        self.assertEqual(last(*start, choose(0), ORDER), [3, 0, 1, 2, 0])

    def test_telling_changes_nothing(self):
        start = [template(0, "${1:a${2:b}}$2"), expand(0, 0, 0), NEXT]
        told = [SHOWS, SPANS, ORDER]
        self.assertEqual(ask(*start, *told, *told)[3:6], ask(*start, *told, *told)[6:])
        self.assertEqual(last(*start, *told, typing(1, 1, "c")), [1, 5, 2, 1, 3])
        self.assertEqual(last(*start, *told, UNDO), [1, 3, 1, 0, 2])
        self.assertEqual(order_after(*start, *told, UNDO), [1, 2, 0])


if __name__ == "__main__":
    unittest.main()
