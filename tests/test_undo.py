"""The call undo: the text and what is filled in, as they were ahead of the last change."""

import unittest

from tests.helper import LEAVE, NEXT, ORDER, PREV, SHOWS, SPANS, UNDO, all_after, ask, choose, expand, last
from tests.helper import order_after, spans_after, template, text, text_after, typing

START = [text("<>"), template(0, "${1|a,bc|}${2:d${3:e}}$3${2/u}"), expand(0, 1, 1)]


class UndoTest(unittest.TestCase):
    # Behind a change and its undo all is told as ahead of the change; undo answers how it stands then.
    def check_undone(self, start, change, stands):
        self.assertGreaterEqual(last(*start, change)[0], 0)
        self.assertEqual(last(*start, change, UNDO), stands)
        self.assertEqual(all_after(*start, change, UNDO), all_after(*start))
        for after in (NEXT, PREV, choose(1), typing(0, 1, "x"), LEAVE, UNDO):
            self.assertEqual(last(*start, change, UNDO, after), last(*start, after))

    def test_expand(self):
        self.check_undone(START[:2], START[2], [0, 2])
        self.check_undone(START, expand(0, 0, 1), [1, 8, 1, 1, 2])
        self.check_undone(START + [NEXT], expand(0, 1, 2), [1, 8, 2, 2, 4])

    def test_typing(self):
        self.check_undone([text("abc")], typing(1, 2, "xyz"), [0, 3])
        self.check_undone(START, typing(1, 1, "q"), [1, 8, 1, 1, 2])
        self.check_undone(START + [NEXT, NEXT], typing(0, 1, ""), [1, 8, 3, 3, 4])

    def test_places_that_were_gone_are_there_again(self):
        calls = START + [NEXT, typing(0, 1, "x")]
        self.assertEqual(text_after(*calls), "<axeeXE>")
        self.assertEqual(order_after(*calls), [1, 2, 0])
        self.check_undone(START + [NEXT], typing(0, 1, "x"), [1, 8, 2, 2, 4])
        self.assertEqual(order_after(*calls, UNDO), [1, 2, 3, 0])
        self.assertEqual(text_after(*calls, UNDO, NEXT, typing(0, 1, "fg")), "<adfgfgDFG>")

    def test_next_and_prev(self):
        self.check_undone(START, NEXT, [1, 8, 1, 1, 2])
        self.check_undone(START + [NEXT, NEXT], NEXT, [1, 8, 3, 3, 4])
        self.check_undone(START + [NEXT, NEXT], PREV, [1, 8, 3, 3, 4])

    def test_next_from_the_last_place(self):
        calls = START + [NEXT, NEXT, NEXT]
        self.assertEqual(last(*calls, NEXT), [0, 8])
        self.check_undone(calls, NEXT, [1, 8, 0, 7, 7])
        self.assertEqual(text_after(*calls, NEXT, UNDO, PREV, typing(0, 1, "x")), "<adxxDX>")

    def test_leave(self):
        self.check_undone(START, LEAVE, [1, 8, 1, 1, 2])
        self.check_undone(START + [NEXT, NEXT], LEAVE, [1, 8, 3, 3, 4])

    def test_choose(self):
        self.check_undone(START, choose(1), [1, 8, 1, 1, 2])
        self.check_undone(START + [choose(1)], choose(0), [1, 9, 1, 1, 3])
        self.assertEqual(text_after(*START, choose(1), UNDO), "<adeeDE>")

    def test_choosing_what_is_there_already_counts(self):
        self.assertEqual(last(*START, NEXT, PREV, choose(0), UNDO), [1, 8, 1, 1, 2])
        self.assertEqual(last(*START, NEXT, PREV, choose(0), UNDO, UNDO), [1, 8, 2, 2, 4])

    def test_typing_that_changes_no_byte_counts(self):
        self.assertEqual(ask(text("ab"), typing(0, 0, "c"), typing(0, 0, ""), UNDO, UNDO, UNDO)[2:], [
            [0, 3], [0, 3], [0, 2], [-7]])

    def test_a_snippet_within_one(self):
        calls = [template(0, "$1-$1"), expand(0, 0, 0), typing(0, 0, "ab"), template(1, "<$S$1>"), expand(1, 1, 2)]
        self.assertEqual(text_after(*calls), "a<b>-a<b>")
        self.assertEqual(last(*calls, UNDO), [1, 5, 1, 0, 2])
        self.assertEqual(spans_after(*calls, UNDO), [(1, 0, 0, 2), (1, 1, 3, 5), (0, 0, 5, 5)])


class SeveralTest(unittest.TestCase):
    def test_in_a_row_back_to_the_beginning(self):
        changes = [NEXT, typing(0, 1, "xy"), PREV, choose(1), expand(0, 1, 2), LEAVE, typing(0, 1, "")]
        answered = ask(*START, *changes)[2:]
        self.assertTrue(all(answer[0] >= 0 for answer in answered))
        back = ask(*START, *changes, *[UNDO] * 9)[-9:]
        self.assertEqual(back, answered[-2::-1] + [[0, 2], [-7]])

    def test_all_is_told_as_it_was_at_each_step(self):
        changes = [NEXT, typing(0, 1, "xy"), PREV, choose(1), expand(0, 1, 2), choose(1), NEXT, LEAVE, typing(0, 1, "")]
        self.assertTrue(all(answer[0] >= 0 for answer in ask(*START, *changes)))
        for kept in range(len(changes)):
            undone = [UNDO] * (len(changes) - kept)
            self.assertEqual(all_after(*START, *changes, *undone), all_after(*START, *changes[:kept]))

    def test_other_calls_behind_it_can_be_undone_too(self):
        calls = [text("a"), typing(1, 1, "b"), typing(2, 2, "c"), UNDO, typing(2, 2, "d"), UNDO, UNDO, UNDO]
        self.assertEqual(ask(*calls)[1:], [[0, 2], [0, 3], [0, 2], [0, 3], [0, 2], [0, 1], [-7]])
        self.assertEqual(text_after(*calls[:5]), "abd")
        self.assertEqual(text_after(*calls[:6]), "ab")
        self.assertEqual(text_after(*calls), "a")

    # The last that isn't undone: undo is not undone itself.
    def test_undo_behind_undo_goes_on_back(self):
        calls = [typing(0, 0, "a"), typing(1, 1, "b"), typing(2, 2, "c"), UNDO, UNDO]
        self.assertEqual(text_after(*calls), "a")
        self.assertEqual(ask(*calls, UNDO, UNDO)[-2:], [[0, 0], [-7]])

    def test_filled_in_again_behind_undo_of_all(self):
        calls = START + [choose(1), LEAVE, UNDO, UNDO, UNDO, UNDO]
        self.assertEqual(last(*calls), [-7])
        self.assertEqual(text_after(*calls), "<>")
        self.assertEqual(last(*calls, expand(0, 0, 2), typing(0, 1, "z")), [1, 6, 11, 0, 1])
        self.assertEqual(text_after(*calls, expand(0, 0, 2), typing(0, 1, "z")), "zdeeDE")


class EdgesTest(unittest.TestCase):
    def test_there_is_nothing(self):
        self.assertEqual(last(UNDO), [-7])
        self.assertEqual(ask(UNDO, UNDO, SHOWS), [[-7], [-7], [0]])
        self.assertEqual(last(text("abc"), UNDO), [-7])
        self.assertEqual(last(template(0, "$1"), UNDO), [-7])
        self.assertEqual(text_after(text("abc"), UNDO), "abc")

    def test_behind_text(self):
        self.assertEqual(last(*START, typing(0, 1, "b"), text("x"), UNDO), [-7])
        self.assertEqual(all_after(*START, text("x"), UNDO), [[1, 120], [-3], [-3]])
        self.assertEqual(ask(*START, text("x"), typing(0, 0, "y"), UNDO, UNDO)[-3:], [[0, 2], [0, 1], [-7]])

    def test_behind_a_text_that_was_refused(self):
        self.assertEqual(last(*START, NEXT, text([256]), UNDO), [1, 8, 1, 1, 2])
        self.assertEqual(last(*START, text([7] * 301), UNDO), [0, 2])

    def test_behind_a_refusal_the_last_that_was_not_refused(self):
        refused = [PREV, typing(0, 9, ""), typing(0, 0, [256]), typing(0, 0, [97] * 300), expand(9, 0, 0),
                   expand(0, 0, 9), choose(2), template(0, "$")]
        for call in refused:
            self.assertLess(last(*START, NEXT, PREV, call)[0], 0)
            self.assertEqual(last(*START, NEXT, PREV, call, UNDO), [1, 8, 2, 2, 4])
        for call in (NEXT, PREV, LEAVE, choose(0), SPANS, ORDER):
            self.assertEqual(last(*START, LEAVE, call), [-3])
            self.assertEqual(last(*START, LEAVE, call, UNDO), [1, 8, 1, 1, 2])

    def test_behind_an_undo_that_was_refused(self):
        calls = [text("ab"), typing(0, 1, ""), UNDO, UNDO, typing(0, 2, ""), UNDO]
        self.assertEqual(ask(*calls)[2:], [[0, 2], [-7], [0, 0], [0, 2]])

    def test_telling_is_not_undone(self):
        self.assertEqual(last(*START, NEXT, SHOWS, SPANS, ORDER, UNDO), [1, 8, 1, 1, 2])

    def test_templates_are_not_undone(self):
        calls = [template(0, "ab"), typing(0, 0, "x"), template(0, "cd"), template(1, "ef"), UNDO]
        self.assertEqual(last(*calls), [0, 0])
        self.assertEqual(text_after(*calls, expand(0, 0, 0)), "cd")
        self.assertEqual(text_after(*calls, expand(1, 0, 0)), "ef")

    def test_names_that_were_undone_are_not_given_again(self):
        calls = [template(0, "a$1"), expand(0, 0, 0), UNDO, expand(0, 0, 0)]
        self.assertEqual(ask(*calls)[1:], [[1, 1, 1, 1, 1], [0, 0], [1, 1, 11, 1, 1]])
        self.assertEqual(last(*calls, expand(0, 0, 0), UNDO, expand(0, 0, 0)), [1, 2, 31, 2, 2])
        self.assertEqual(order_after(*calls, expand(0, 0, 0), UNDO, expand(0, 0, 0)), [11, 31, 30, 10])

    def test_six_put_in_count_undone_ones_too(self):
        calls = [template(0, "a$1")] + [expand(0, 0, 0), UNDO] * 6
        self.assertEqual(last(*calls), [0, 0])
        self.assertEqual(last(*calls[:-2], expand(0, 0, 0)), [1, 1, 51, 1, 1])
        self.assertEqual(last(*calls, expand(0, 0, 0)), [-4])
        self.assertEqual(last(*calls, text("b"), expand(0, 0, 0)), [-4])
        self.assertEqual(last(*calls, typing(0, 0, "b"), expand(0, 0, 0), UNDO), [0, 0])


if __name__ == "__main__":
    unittest.main()
