"""The call type: parts of the text or of a value exchanged, mirrors along with it."""

import unittest

from tests.helper import NEXT, PREV, all_after, ask, expand, last, order_after, put, spans_after
from tests.helper import template, text, text_after, typing

BIG = 4294967295


class TextTest(unittest.TestCase):
    def test_part_of_the_text(self):
        self.assertEqual(ask(text("hello"), typing(1, 3, "XYZ"), typing(6, 6, "!")), [[5], [0, 6], [0, 7]])
        self.assertEqual(text_after(text("hello"), typing(1, 3, "XYZ"), typing(6, 6, "!")), "hXYZlo!")
        self.assertEqual(text_after(typing(0, 0, "ab"), typing(1, 2, "")), "a")
        self.assertEqual(last(typing(0, 0, "")), [0, 0])

    def test_range_refused(self):
        for start, end in ((2, 1), (0, 4), (4, 4), (BIG, 0), (0, BIG)):
            self.assertEqual(last(text("abc"), typing(start, end, "x")), [-1])
            self.assertEqual(text_after(text("abc"), typing(start, end, "x")), "abc")
        self.assertEqual(last(text("abc"), typing(3, 3, "x")), [0, 4])

    def test_byte_refused(self):
        self.assertEqual(last(typing(0, 0, [255])), [0, 1])
        self.assertEqual(last(typing(0, 0, [256])), [-1])
        self.assertEqual(last(typing(0, 0, [1, BIG])), [-1])

    def test_three_hundred_bytes_and_one_more(self):
        self.assertEqual(last(typing(0, 0, [7] * 300)), [0, 300])
        self.assertEqual(last(typing(0, 0, [7] * 301)), [-5])
        self.assertEqual(last(text([7] * 300), typing(0, 2, [7] * 2)), [0, 300])
        self.assertEqual(last(text([7] * 300), typing(0, 2, [7] * 3)), [-5])

    def test_first_refusal_is_told(self):
        self.assertEqual(last(typing(0, 0, [256] * 600)), [-1])
        self.assertEqual(last(typing(0, 1, [7] * 600)), [-1])


class ValueTest(unittest.TestCase):
    def test_mirrors_are_always_as_the_place(self):
        row = "${1:ab}-$1-${1/u}-${1/l}-${1/c}"
        self.assertEqual(put(row, typing(1, 1, "xY")), "axYb-axYb-AXYB-axyb-Axyb")
        self.assertEqual(put(row, typing(0, 2, "")), "----")
        self.assertEqual(put(row, typing(0, 2, ""), typing(0, 0, "q")), "q-q-Q-q-Q")

    def test_how_it_stands(self):
        start = [text("<>"), template(0, "$1${1:ab}$1"), expand(0, 1, 1)]
        self.assertEqual(ask(*start)[-1], [1, 8, 1, 3, 5])
        self.assertEqual(last(*start, typing(2, 2, "c")), [1, 11, 1, 4, 7])
        self.assertEqual(last(*start, typing(0, 2, "")), [1, 2, 1, 1, 1])

    def test_a_place_keeps_where_it_stands_beside_others_without_bytes(self):
        start = [template(0, "$3$1$2$1"), expand(0, 0, 0)]
        self.assertEqual(last(*start, typing(0, 0, "a"), NEXT, typing(0, 0, "b")), [1, 3, 2, 1, 2])
        self.assertEqual(text_after(*start, typing(0, 0, "a"), NEXT, typing(0, 0, "b")), "aba")
        self.assertEqual(text_after(*start, NEXT, typing(0, 0, "b"), PREV, typing(0, 0, "a")), "aba")
        self.assertEqual(text_after(*start, NEXT, NEXT, typing(0, 0, "c"), PREV, typing(0, 0, "b")), "cb")

    def test_mirrors_within_other_places(self):
        start = [template(0, "${1:a}${2:<$1${1/u}>}$2"), expand(0, 0, 0)]
        self.assertEqual(text_after(*start, typing(1, 1, "b")), "ab<abAB><abAB>")
        self.assertEqual(last(*start, typing(1, 1, "b"), NEXT), [1, 14, 2, 2, 8])

    def test_typed_over_a_place_with_a_mirror_in_it(self):
        start = [template(0, "${1:a}${2:<$1>}$2$1"), expand(0, 0, 0), NEXT, typing(0, 1, "(")]
        self.assertEqual(text_after(*start), "a(a>(a>a")
        self.assertEqual(text_after(*start, PREV, typing(0, 1, "b")), "b(a>(a>b")

    def test_typed_over_a_place_with_places_in_it(self):
        start = [template(0, "${1:a${2:b${3:c}}}[$2${2/u}$3]$1"), expand(0, 0, 0)]
        calls = start + [typing(1, 2, "XY")]
        self.assertEqual(text_after(*start), "abc[bcBCc]abc")
        self.assertEqual(last(*calls), [1, 15, 1, 0, 4])
        self.assertEqual(text_after(*calls), "aXYc[bcBCc]aXYc")
        self.assertEqual(order_after(*calls), [1, 0])
        self.assertEqual(spans_after(*calls), [(1, 0, 0, 4), (1, 1, 11, 15), (0, 0, 15, 15)])
        self.assertEqual(last(*calls, NEXT), [1, 15, 0, 15, 15])

    def test_mirrors_of_what_is_gone_stay_as_they_stood(self):
        row = "${3:x}${1:a${2:b$3}}[$2${4:$2}]"
        calls = [template(0, row), expand(0, 0, 0), typing(0, 0, "q"), NEXT, typing(0, 0, "w"), PREV, typing(0, 1, "e")]
        self.assertEqual(text_after(template(0, row), expand(0, 0, 0)), "xabx[bxbx]")
        self.assertEqual(text_after(*calls[:3]), "xqabx[bxbx]")
        self.assertEqual(order_after(*calls[:3]), [1, 3, 4, 0])
        self.assertEqual(text_after(*calls[:5]), "wxqabx[bxbx]")
        self.assertEqual(text_after(*calls), "wxeabx[bxbx]")

    def test_places_ahead_in_order_can_be_gone(self):
        start = [template(0, "${2:a${1:b}}$1"), expand(0, 0, 0), NEXT]
        self.assertEqual(last(*start), [1, 3, 2, 0, 2])
        self.assertEqual(last(*start, typing(0, 0, "")), [1, 3, 2, 0, 2])
        self.assertEqual(order_after(*start, typing(0, 0, "")), [2, 0])
        self.assertEqual(last(*start, typing(0, 0, ""), PREV), [-6])

    def test_typed_over_a_snippet_within(self):
        start = [template(0, "$1|$1"), expand(0, 0, 0), template(1, "<${1:a}$1>"), expand(1, 0, 0), PREV]
        self.assertEqual(text_after(*start, typing(0, 1, "")), "aa>|aa>")
        self.assertEqual(order_after(*start, typing(0, 1, "")), [1, 0])
        self.assertEqual(last(*start, typing(0, 1, "")), [1, 7, 1, 0, 3])

    def test_typed_within_a_snippet_within(self):
        start = [template(0, "$1|${1/u}"), expand(0, 0, 0), template(1, "<${1:a}$1>"), expand(1, 0, 0)]
        self.assertEqual(text_after(*start, typing(0, 1, "bc")), "<bcbc>|<BCBC>")

    def test_refusals(self):
        start = [text("abcdef"), template(0, "${1:xy}$1"), expand(0, 0, 0)]
        for call in (typing(0, 3, ""), typing(3, 3, ""), typing(1, 0, ""), typing(0, 0, [256]), typing(0, 3, [7] * 600)):
            self.assertEqual(last(*start, call), [-1])
            self.assertEqual(text_after(*start, call), "xyxyabcdef")
        self.assertEqual(last(*start, typing(2, 2, "")), [1, 10, 1, 0, 2])

    def test_three_hundred_bytes_counted_with_mirrors(self):
        start = [text([120] * 200), template(0, "$1${1/u}"), expand(0, 0, 0)]
        self.assertEqual(last(*start, typing(0, 0, [97] * 50)), [1, 300, 1, 0, 50])
        self.assertEqual(last(*start, typing(0, 0, [97] * 51)), [-5])

    def test_refused_by_length_leaves_all(self):
        start = [text([120] * 290), template(0, "${1:a${2:b}}$2"), expand(0, 0, 0)]
        self.assertEqual(order_after(*start, typing(0, 0, [97] * 8)), [1, 2, 0])
        self.assertEqual(text_after(*start, typing(0, 0, [97] * 8)), "abb" + "x" * 290)
        self.assertEqual(all_after(*start, typing(0, 0, [97] * 8)), all_after(*start))
        self.assertEqual(last(*start, typing(0, 0, [97] * 8)), [-5])
        self.assertEqual(last(*start, typing(0, 0, [97] * 7)), [1, 300, 1, 0, 9])

    def test_what_is_typed_is_not_read(self):
        self.assertEqual(put("$1", typing(0, 0, "$2\\}")), "$2\\}")

    def test_no_blanks_behind_what_is_typed(self):
        calls = [text("  "), template(0, "$1"), expand(0, 2, 2), typing(0, 0, "a\nb")]
        self.assertEqual(text_after(*calls), "  a\nb")


if __name__ == "__main__":
    unittest.main()
