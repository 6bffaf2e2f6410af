"""The call choose: a place's value is one of its choices, like typed."""

import unittest

from tests.helper import LEAVE, NEXT, ORDER, PREV, UNDO, all_after, ask, choose, expand, last, order_after, put
from tests.helper import spans_after, template, text, text_after, typing

BIG = 4294967295


class ChooseTest(unittest.TestCase):
    def test_each_choice(self):
        start = [text("<>"), template(0, "-${1|a,bcd,ef|}-"), expand(0, 1, 1)]
        self.assertEqual(last(*start, choose(0)), [1, 5, 1, 2, 3])
        self.assertEqual(last(*start, choose(1)), [1, 7, 1, 2, 5])
        self.assertEqual(last(*start, choose(2)), [1, 6, 1, 2, 4])
        self.assertEqual(text_after(*start, choose(0)), "<-a->")
        self.assertEqual(text_after(*start, choose(1)), "<-bcd->")
        self.assertEqual(text_after(*start, choose(2)), "<-ef->")

    def test_again_at_the_same_place(self):
        start = [template(0, "${1|a,bcd,ef|}."), expand(0, 0, 0)]
        self.assertEqual(text_after(*start, choose(1), choose(2)), "ef.")
        self.assertEqual(text_after(*start, choose(1), choose(0)), "a.")
        self.assertEqual(text_after(*start, choose(1), choose(1)), "bcd.")
        self.assertEqual(last(*start, choose(1), choose(2), choose(0)), [1, 2, 1, 0, 1])

    def test_behind_typing_there(self):
        start = [template(0, "${1|a,bcd|}."), expand(0, 0, 0), typing(0, 1, "wxyz")]
        self.assertEqual(text_after(*start, choose(0)), "a.")
        self.assertEqual(text_after(*start, choose(1)), "bcd.")
        self.assertEqual(text_after(*start, choose(1), typing(1, 2, "XX")), "bXXd.")
        self.assertEqual(text_after(*start, choose(1), typing(0, 3, ""), choose(0)), "a.")

    def test_behind_moving_away_and_back(self):
        start = [template(0, "${1|a,b|}${2|c,d|}"), expand(0, 0, 0), choose(1), NEXT, choose(1)]
        self.assertEqual(text_after(*start), "bd")
        self.assertEqual(text_after(*start, PREV, choose(0)), "ad")
        self.assertEqual(last(*start, PREV, choose(0)), [1, 2, 1, 0, 1])

    def test_place_0_has_choices_too(self):
        start = [template(0, "${0|a,b|}c"), expand(0, 0, 0)]
        self.assertEqual(last(*start, choose(1)), [1, 2, 0, 0, 1])
        self.assertEqual(text_after(*start, choose(1)), "bc")

    def test_mirrors_are_along(self):
        row = "$1-${1|aB,xyZ,|}-${1/u}-${1/l}-${1/c}-${2:<$1>}$2"
        self.assertEqual(put(row), "aB-aB-AB-ab-Ab-<aB><aB>")
        self.assertEqual(put(row, choose(1)), "xyZ-xyZ-XYZ-xyz-Xyz-<xyZ><xyZ>")
        self.assertEqual(put(row, choose(2)), "-----<><>")
        self.assertEqual(put(row, choose(2), choose(0)), "aB-aB-AB-ab-Ab-<aB><aB>")
        self.assertEqual(last(template(0, row), expand(0, 0, 0), choose(1)), [1, 30, 1, 4, 7])

    def test_line_ends_in_choices_get_no_blanks(self):
        start = [text("  "), template(0, "${1|a,b\nc,\n\n|}\n$1"), expand(0, 2, 2)]
        self.assertEqual(text_after(*start), "  a\n  a")
        self.assertEqual(text_after(*start, choose(1)), "  b\nc\n  b\nc")
        self.assertEqual(text_after(*start, choose(2)), "  \n\n\n  \n\n")
        self.assertEqual(last(*start, choose(1)), [1, 11, 1, 2, 5])

    def test_commas_bars_and_backslashes_in_choices(self):
        row = "${1|x,\\,,a\\|b,\\\\,\\\\\\,|}"
        start = [template(0, row), expand(0, 0, 0)]
        shown = [text_after(*start, choose(number)) for number in range(5)]
        self.assertEqual(shown, ["x", ",", "a|b", "\\", "\\,"])
        self.assertEqual(last(*start, choose(5)), [-2])

    def test_other_signs_in_choices_are_themselves(self):
        start = [template(0, "${1|a,$2,${3:b},}{/u|}"), expand(0, 0, 0)]
        shown = [text_after(*start, choose(number)) for number in range(4)]
        self.assertEqual(shown, ["a", "$2", "${3:b}", "}{/u"])
        self.assertEqual(order_after(*start, choose(2)), [1, 0])

    def test_choices_without_bytes(self):
        start = [template(0, "<${1|a,,b,|}>"), expand(0, 0, 0)]
        self.assertEqual(last(*start, choose(1)), [1, 2, 1, 1, 1])
        self.assertEqual(last(*start, choose(3)), [1, 2, 1, 1, 1])
        self.assertEqual(last(*start, choose(4)), [-2])
        self.assertEqual(text_after(*start, choose(1), choose(2)), "<b>")
        self.assertEqual(last(template(0, "${1||}"), expand(0, 0, 0), choose(0)), [1, 0, 1, 0, 0])
        self.assertEqual(last(template(0, "${1||}"), expand(0, 0, 0), choose(1)), [-2])


class WithinTest(unittest.TestCase):
    START = [template(0, "${1|abc,d|}-${1/u}"), expand(0, 0, 0), template(1, "<${1:x}${2|y,zz|}$1>"), expand(1, 1, 2)]

    def test_what_was_put_in_a_chosen_value_is_gone(self):
        self.assertEqual(text_after(*self.START), "a<xyx>c-A<XYX>C")
        self.assertEqual(order_after(*self.START), [1, 11, 12, 10, 0])
        calls = self.START + [PREV, choose(1)]
        self.assertEqual(last(*calls), [1, 3, 1, 0, 1])
        self.assertEqual(text_after(*calls), "d-D")
        self.assertEqual(order_after(*calls), [1, 0])
        self.assertEqual(spans_after(*calls), [(1, 0, 0, 1), (1, 2, 2, 3), (0, 0, 3, 3)])
        self.assertEqual(text_after(*calls, choose(0)), "abc-ABC")

    def test_choices_of_the_snippet_within(self):
        calls = self.START + [NEXT, choose(1)]
        self.assertEqual(last(*calls), [1, 17, 12, 3, 5])
        self.assertEqual(text_after(*calls), "a<xzzx>c-A<XZZX>C")
        self.assertEqual(last(*self.START, choose(0)), [-6])
        self.assertEqual(last(*self.START, NEXT, choose(2)), [-2])

    # Choices have no places in them: what choosing makes gone was put in later, with all its mirrors in the place;
    # only what is typed over an outer place leaves mirrors behind.
    def test_mirrors_elsewhere_of_what_is_gone_are_bytes(self):
        outer = template(0, "${2:p${1|abc,d|}}[$1]$2")
        start = [outer, expand(0, 0, 0), template(1, "<${1:x}>$1"), expand(1, 0, 3)]
        self.assertEqual(text_after(*start), "p<x>x[<x>x]p<x>x")
        calls = start + [PREV, choose(1)]
        self.assertEqual(text_after(*calls), "pd[d]pd")
        over = calls + [NEXT, typing(0, 1, "q")]
        self.assertEqual(text_after(*over), "qd[d]qd")
        self.assertEqual(order_after(*over), [2, 0])
        self.assertEqual(spans_after(*over), [(2, 0, 0, 2), (2, 1, 5, 7), (0, 0, 7, 7)])

    def test_a_place_with_choices_that_is_gone(self):
        start = [template(0, "${2:p${1|a,b|}}$1${1/u}"), expand(0, 0, 0), choose(1), NEXT, typing(0, 0, "")]
        self.assertEqual(text_after(*start), "pbbB")
        self.assertEqual(order_after(*start), [2, 0])
        self.assertEqual(last(*start, choose(0)), [-6])
        self.assertEqual(last(*start, PREV), [-6])

    def test_choices_are_of_the_template_as_it_was_put_in(self):
        start = [template(0, "${1|a,b|}"), expand(0, 0, 0), template(0, "${1|c,d,e|}")]
        self.assertEqual(text_after(*start, choose(1)), "b")
        self.assertEqual(last(*start, choose(2)), [-2])


class RefusalsTest(unittest.TestCase):
    def test_nothing_is_filled_in(self):
        self.assertEqual(last(choose(0)), [-3])
        self.assertEqual(last(text("abc"), choose(BIG)), [-3])
        start = [template(0, "${1|a,b|}"), expand(0, 0, 0)]
        self.assertEqual(last(*start, LEAVE, choose(0)), [-3])
        self.assertEqual(last(*start, NEXT, NEXT, choose(0)), [-3])
        self.assertEqual(last(*start, text(""), choose(9)), [-3])
        self.assertEqual(last(*start, UNDO, choose(0)), [-3])

    def test_no_choices(self):
        start = [template(0, "${1:a}${2|b,c|}$3"), expand(0, 0, 0)]
        self.assertEqual(last(*start, choose(0)), [-6])
        self.assertEqual(last(*start, choose(BIG)), [-6])
        self.assertEqual(last(*start, NEXT, choose(1)), [1, 2, 2, 1, 2])
        self.assertEqual(last(*start, NEXT, NEXT, choose(0)), [-6])
        self.assertEqual(last(*start, NEXT, NEXT, NEXT, choose(0)), [-6])

    def test_no_such_choice(self):
        start = [template(0, "${1|a,b|}"), expand(0, 0, 0)]
        self.assertEqual(ask(*start, choose(1), choose(2), choose(3), choose(BIG))[2:], [
            [1, 1, 1, 0, 1], [-2], [-2], [-2]])

    def test_three_hundred_bytes_and_one_more(self):
        start = [text([120] * 298), template(0, "${1||}${2|,ab,abc|}"), expand(0, 0, 0), NEXT]
        self.assertEqual(last(*start, choose(1)), [1, 300, 2, 0, 2])
        self.assertEqual(last(*start, choose(2)), [-5])
        self.assertEqual(last(*start, choose(3)), [-2])
        self.assertEqual(last(*start, PREV, choose(1)), [-2])

    def test_three_hundred_bytes_counted_with_mirrors(self):
        start = [text([120] * 293), template(0, "${1|,ab,abc|}$1${1/u}"), expand(0, 0, 0)]
        self.assertEqual(last(*start, choose(1)), [1, 299, 1, 0, 2])
        self.assertEqual(last(*start, choose(2)), [-5])
        fuller = [text([120] * 291)] + start[1:]
        self.assertEqual(last(*fuller, choose(2)), [1, 300, 1, 0, 3])

    # What is in the place makes way first: only what would stand then is counted.
    def test_three_hundred_bytes_counted_without_what_was_there(self):
        start = [text([120] * 290), template(0, "${1|abcdefghij,klmnopqrst,abcdefghijk|}"), expand(0, 0, 0)]
        self.assertEqual(last(*start, choose(1)), [1, 300, 1, 0, 10])
        self.assertEqual(last(*start, choose(2)), [-5])

    def test_all_is_as_it_was_behind_a_refusal(self):
        start = [text([120] * 296), template(0, "${1|a,b,cde|}$1${2:d}"), expand(0, 0, 0), choose(1)]
        for call, refusal in ((choose(2), -5), (choose(3), -2)):
            self.assertEqual(last(*start, call), [refusal])
            self.assertEqual(all_after(*start, call), all_after(*start))
            self.assertEqual(last(*start, call, UNDO), [1, 299, 1, 0, 1])
            self.assertEqual(text_after(*start, call, UNDO), "aad" + "x" * 296)
        self.assertEqual(last(*start, NEXT, choose(0), ORDER), [3, 1, 1, 2, 0])


if __name__ == "__main__":
    unittest.main()
