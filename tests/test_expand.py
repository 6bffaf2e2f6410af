"""The call expand: where places stand, names, blanks, what is selected, a snippet within a place."""

import unittest

from tests.helper import NEXT, PREV, all_after, ask, choose, expand, last, order_after, spans_after
from tests.helper import template, text, text_after, typing

BIG = 4294967295


def first_stand(row):
    return last(template(0, row), expand(0, 0, 0))


class StandsTest(unittest.TestCase):
    def check_all(self, rows):
        for row, answer in rows:
            with self.subTest(row=row):
                self.assertEqual(first_stand(row), answer)

    def test_one_is_at_the_first_place_in_order(self):
        self.check_all([
            ("", [1, 0, 0, 0, 0]), ("abc", [1, 3, 0, 3, 3]), ("a$0bc", [1, 3, 0, 1, 1]), ("a${0:bc}d", [1, 4, 0, 1, 3]),
            ("$0ab$1c", [1, 3, 1, 2, 2]), ("a${9:bc}$0", [1, 3, 9, 1, 3]), ("${3:x}${2:yy}${7}", [1, 3, 2, 1, 3]),
            ("a${1|bc,d|}", [1, 3, 1, 1, 3]), ("${2:a${1:b}c}", [1, 3, 1, 1, 2]),
        ])

    def test_a_place_stands_where_it_is_filled_or_first_told(self):
        self.check_all([
            ("a$1b$1", [1, 2, 1, 1, 1]), ("$1a${1:bc}d", [1, 6, 1, 3, 5]), ("$1a${1|bc,d|}", [1, 5, 1, 3, 5]),
            ("${1/u}a${1}$1", [1, 1, 1, 1, 1]), ("${2:a$1b}$1", [1, 2, 1, 1, 1]), ("$1${2:$1}", [1, 0, 1, 0, 0]),
        ])

    def test_spans(self):
        calls = [template(0, "$1a${1:b${2:c}}${2/u}${1/l}${1/c}$2"), expand(0, 0, 0)]
        self.assertEqual(spans_after(*calls), [
            (1, 1, 0, 2), (1, 0, 3, 5), (2, 0, 4, 5), (2, 2, 5, 6), (1, 3, 6, 8), (1, 4, 8, 10), (2, 1, 10, 11),
            (0, 0, 11, 11)])

    def test_order(self):
        self.assertEqual(order_after(template(0, "$0$9$3$1${5:$2}"), expand(0, 0, 0)), [1, 2, 3, 5, 9, 0])
        self.assertEqual(order_after(template(0, "$9$3"), expand(0, 0, 0)), [3, 9, 0])


class RangeTest(unittest.TestCase):
    def test_into_the_middle_of_a_text(self):
        calls = [text("hello"), template(0, "<${1:x}$2>"), expand(0, 2, 4)]
        self.assertEqual(last(*calls), [1, 6, 1, 3, 4])
        self.assertEqual(text_after(*calls), "he<x>o")

    def test_selected(self):
        calls = [text("hello"), template(0, "<$S|${1:$S$S}|${1/u}>"), expand(0, 1, 3)]
        self.assertEqual(text_after(*calls), "h<el|elel|ELEL>lo")
        self.assertEqual(last(*calls), [1, 17, 1, 5, 9])
        self.assertEqual(text_after(text("ab"), template(0, "[$S]"), expand(0, 1, 1)), "a[]b")

    def test_selected_bytes_are_not_read(self):
        self.assertEqual(text_after(text("$1\\"), template(0, "<$S>"), expand(0, 0, 3)), "<$1\\>")

    def test_refusals(self):
        start = [text("abc"), template(1, "x")]
        self.assertEqual(last(*start, expand(0, 0, 0)), [-2])
        self.assertEqual(last(*start, expand(10, 0, 0)), [-2])
        self.assertEqual(last(*start, expand(BIG, 2, 1)), [-2])
        self.assertEqual(last(*start, expand(1, 2, 1)), [-1])
        self.assertEqual(last(*start, expand(1, 0, 4)), [-1])
        self.assertEqual(last(*start, expand(1, 4, 4)), [-1])
        self.assertEqual(last(*start, expand(1, BIG, BIG)), [-1])
        self.assertEqual(last(*start, expand(1, 3, 3)), [1, 4, 0, 4, 4])
        self.assertEqual(last(*start, expand(1, 0, 3)), [1, 1, 0, 1, 1])

    def test_range_is_of_the_value_while_filling_in(self):
        start = [text("abcdef"), template(0, "${1:xy}"), expand(0, 3, 3)]
        self.assertEqual(last(*start, expand(0, 0, 3)), [-1])
        self.assertEqual(last(*start, expand(0, 2, 1)), [-1])
        self.assertEqual(last(*start, expand(0, 0, 2)), [1, 8, 11, 3, 5])

    def test_three_hundred_bytes_and_one_more(self):
        start = [text([120] * 298), template(0, "ab"), template(1, "abc"), template(2, "$S$S")]
        self.assertEqual(last(*start, expand(0, 0, 0)), [1, 300, 0, 2, 2])
        self.assertEqual(last(*start, expand(1, 0, 0)), [-5])
        self.assertEqual(last(*start, expand(1, 0, 1)), [1, 300, 0, 3, 3])
        self.assertEqual(last(*start, expand(2, 0, 2)), [1, 300, 0, 4, 4])
        self.assertEqual(last(*start, expand(2, 0, 3)), [-5])

    def test_three_hundred_bytes_counted_with_mirrors(self):
        start = [text([120] * 290), template(0, "$1$1$1"), expand(0, 0, 0), template(1, "abc"), template(2, "abcd")]
        self.assertEqual(last(*start, expand(1, 0, 0)), [1, 299, 10, 3, 3])
        self.assertEqual(last(*start, expand(2, 0, 0)), [-5])

    def test_mirrors_within_mirrors_are_told_too_long_at_once(self):
        row = "$1${2:$1$1$1$1$1}${3:$2$2$2$2$2}${4:$3$3$3$3$3}$4$4$4"
        calls = [template(0, row)] + [expand(0, 0, 0)] * 6
        self.assertEqual(last(*calls), [1, 0, 51, 0, 0])
        self.assertEqual(last(*calls, typing(0, 0, "a")), [-5])

    def test_six_put_in_and_a_seventh(self):
        calls = [template(0, "a$1")] + [expand(0, 0, 0)] * 6
        self.assertEqual(last(*calls), [1, 6, 51, 6, 6])
        self.assertEqual(last(*calls, expand(0, 0, 0)), [-4])
        self.assertEqual(last(*calls, text(""), expand(0, 0, 0)), [-4])
        self.assertEqual(last(*calls, expand(1, 9, 0)), [-2])
        self.assertEqual(last(*calls, expand(0, 9, 0)), [-1])
        self.assertEqual(last(*calls, text([120] * 300), expand(0, 0, 0)), [-4])

    def test_refused_ones_do_not_count(self):
        calls = [template(0, "a"), expand(0, 1, 1), expand(1, 0, 0), text([120] * 300), expand(0, 0, 0), text("")]
        self.assertEqual(ask(*calls)[1:5], [[-1], [-2], [300], [-5]])
        self.assertEqual(last(*calls, expand(0, 0, 0)), [1, 1, 0, 1, 1])


class BlanksTest(unittest.TestCase):
    def test_behind_each_line_end_of_the_template(self):
        calls = [text("x\n \t y"), template(0, "a\nb\n\n${1:c\nd}\n"), expand(0, 5, 5)]
        self.assertEqual(text_after(*calls), "x\n \t a\n \t b\n \t \n \t c\n \t d\n \t y")

    def test_those_ahead_of_the_range_alone(self):
        self.assertEqual(text_after(text("    x"), template(0, "a\nb"), expand(0, 2, 2)), "  a\n  b  x")
        self.assertEqual(text_after(text("    x"), template(0, "a\nb"), expand(0, 0, 4)), "a\nbx")
        self.assertEqual(text_after(text("  x y"), template(0, "a\nb"), expand(0, 4, 5)), "  x a\n  b")

    def test_the_line_in_which_the_range_begins(self):
        self.assertEqual(text_after(text("  x\n y"), template(0, "\n"), expand(0, 3, 3)), "  x\n  \n y")
        self.assertEqual(text_after(text("  x\n y"), template(0, "\n"), expand(0, 4, 4)), "  x\n\n y")
        self.assertEqual(text_after(text("  x\n y"), template(0, "\n"), expand(0, 2, 6)), "  \n  ")

    def test_only_32_and_9_are_blanks(self):
        for byte in (11, 12, 13, 160, 0):
            answer = last(text([byte, 32]), template(0, "\n"), expand(0, 2, 2))
            self.assertEqual(answer, [1, 3, 0, 3, 3])

    def test_not_in_choices(self):
        calls = [text("  "), template(0, "${1|a\nb,c|}\n$1"), expand(0, 2, 2)]
        self.assertEqual(text_after(*calls), "  a\nb\n  a\nb")

    def test_not_in_what_is_selected(self):
        calls = [text("  a\nb"), template(0, "$S\n${1:$S}"), expand(0, 2, 5)]
        self.assertEqual(text_after(*calls), "  a\nb\n  a\nb")

    def test_of_the_text_while_filling_in(self):
        calls = [text("  "), template(0, "x=${1:yz}"), expand(0, 2, 2), template(1, "a\nb"), expand(1, 1, 1)]
        self.assertEqual(text_after(*calls), "  x=ya\n  bz")

    def test_of_a_line_that_begins_in_the_value(self):
        calls = [template(0, "x=${1:\n\t}"), expand(0, 0, 0), template(1, "a\nb"), expand(1, 2, 2)]
        self.assertEqual(text_after(*calls), "x=\n\ta\n\tb")

    def test_of_a_line_that_begins_with_a_mirror(self):
        calls = [template(0, "$1x$2\n${1: }"), expand(0, 0, 0), NEXT, template(1, "\n"), expand(1, 0, 0)]
        self.assertEqual(text_after(*calls), " x\n \n ")


class WithinTest(unittest.TestCase):
    def test_names_and_order(self):
        start = [template(0, "$1$2"), expand(0, 0, 0), template(1, "<${2:a}${1:b}$0>"), expand(1, 0, 0)]
        self.assertEqual(last(*start), [1, 4, 11, 2, 3])
        self.assertEqual(order_after(*start), [1, 11, 12, 10, 2, 0])
        self.assertEqual(order_after(*start, NEXT, expand(1, 0, 1)), [1, 11, 12, 21, 22, 20, 10, 2, 0])
        moves = [answer[2] for answer in ask(*start, NEXT, NEXT, NEXT, NEXT)[-4:]]
        self.assertEqual(moves, [12, 10, 2, 0])

    def test_filled_in_first_then_back_to_the_outer_one(self):
        calls = [template(0, "($1)[$2]"), expand(0, 0, 0), template(1, "<$1>"), expand(1, 0, 0)]
        self.assertEqual(last(*calls, PREV), [1, 6, 1, 1, 3])
        self.assertEqual(last(*calls, NEXT, NEXT), [1, 6, 2, 5, 5])

    def test_mirrors_of_the_outer_place_show_the_inner_snippet(self):
        calls = [template(0, "$1-${1/u}"), expand(0, 0, 0), template(1, "<${1:a}$1>"), expand(1, 0, 0)]
        self.assertEqual(text_after(*calls), "<aa>-<AA>")
        self.assertEqual(text_after(*calls, typing(1, 1, "b")), "<abab>-<ABAB>")
        self.assertEqual(last(*calls, typing(1, 1, "b")), [1, 13, 11, 1, 3])

    def test_into_the_middle_of_a_value(self):
        calls = [template(0, "${1:abcd}"), expand(0, 0, 0), template(1, "<$S$1>"), expand(1, 1, 3)]
        self.assertEqual(text_after(*calls), "a<bc>d")
        self.assertEqual(last(*calls), [1, 6, 11, 4, 4])
        self.assertEqual(last(*calls, PREV), [1, 6, 1, 0, 6])

    def test_places_in_the_value_are_gone(self):
        start = [template(0, "${1:a${2:b}c}$2${2/u}"), expand(0, 0, 0), template(1, "x")]
        calls = start + [expand(1, 3, 3)]
        self.assertEqual(text_after(*calls), "abcxbB")
        self.assertEqual(order_after(*calls), [1, 10, 0])
        self.assertEqual(spans_after(*calls), [(1, 0, 0, 4), (10, 0, 4, 4), (0, 0, 6, 6)])

    def test_a_snippet_within_is_gone_when_another_is_put_in(self):
        calls = [template(0, "$1$2"), expand(0, 0, 0), template(1, "<$1$1>"), expand(1, 0, 0), PREV, expand(1, 1, 1)]
        self.assertEqual(order_after(*calls), [1, 21, 20, 2, 0])
        self.assertEqual(text_after(*calls), "<<>>")
        self.assertEqual(last(*calls), [1, 4, 21, 2, 2])

    def test_put_in_again_behind_the_last_place(self):
        calls = [template(0, "a$1"), expand(0, 0, 0), NEXT, NEXT, expand(0, 1, 1)]
        self.assertEqual(ask(*calls)[-2:], [[0, 1], [1, 2, 11, 2, 2]])

    def test_a_template_told_again_leaves_what_was_put_in(self):
        calls = [template(0, "a$1$1"), expand(0, 0, 0), template(0, "$3"), typing(0, 0, "x")]
        self.assertEqual(text_after(*calls), "axx")

    def test_choices_are_kept(self):
        calls = [template(0, "${1|a,b|}${2:${3|c|}}"), expand(0, 0, 0), typing(0, 1, "x"), expand(0, 0, 0)]
        self.assertEqual(order_after(*calls), [1, 11, 12, 13, 10, 2, 3, 0])
        taken = [last(*calls, *[NEXT] * moves, choose(0))[0] for moves in range(7)]
        self.assertEqual(taken, [1, -6, 1, -6, -6, 1, -6])
        self.assertEqual(last(*calls, PREV, choose(1)), [1, 2, 1, 0, 1])
        self.assertEqual(text_after(*calls, choose(1)), "bcxc")

    def test_refused_leaves_all(self):
        start = [text("  q"), template(0, "${1:a${2:b}}$2"), expand(0, 2, 2)]
        for refused in (expand(1, 0, 0), expand(0, 0, 9), expand(0, 1, 0)):
            self.assertEqual(all_after(*start, refused), all_after(*start))
            self.assertEqual(last(*start, refused, expand(0, 0, 0)), [1, 9, 11, 2, 4])

    def test_refused_by_length_leaves_all(self):
        start = [text([120] * 240), template(0, "${1:a${2:b}}$2"), expand(0, 0, 0), template(1, [120] * 60)]
        self.assertEqual(last(*start, expand(1, 0, 0)), [-5])
        self.assertEqual(order_after(*start, expand(1, 0, 0)), [1, 2, 0])
        self.assertEqual(last(*start, expand(1, 0, 0), NEXT), [1, 243, 2, 1, 2])
        self.assertEqual(last(*start, expand(1, 0, 0), expand(0, 0, 2)), [1, 244, 11, 0, 2])


if __name__ == "__main__":
    unittest.main()
