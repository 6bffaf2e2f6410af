"""The calls text and template: what is read, each fault and its place, each way to be wrong."""

import unittest

from tests.helper import expand, last, put, template, text, text_after

BIG = 4294967295


class TextTest(unittest.TestCase):
    def test_how_many(self):
        self.assertEqual(last(text("")), [0])
        self.assertEqual(last(text("abc")), [3])
        self.assertEqual(last(text([0, 255, 10])), [3])

    def test_three_hundred_bytes_and_one_more(self):
        self.assertEqual(last(text([7] * 300)), [300])
        self.assertEqual(last(text([7] * 301)), [-1])
        self.assertEqual(last(text([7] * 600)), [-1])

    def test_byte_above_255(self):
        self.assertEqual(last(text([255])), [1])
        self.assertEqual(last(text([256])), [-1])
        self.assertEqual(last(text([1, 2, BIG])), [-1])

    def test_refused_text_leaves_the_text(self):
        self.assertEqual(text_after(text("abc"), text([256])), "abc")

    def test_ends_filling_in(self):
        calls = [template(0, "$1"), expand(0, 0, 0)]
        self.assertEqual(last(*calls, text("abc"), [4]), [-3])
        self.assertEqual(last(*calls, text([256]), [4]), [1, 0, 0, 0, 0])

    def test_templates_and_names_stay(self):
        calls = [template(0, "$1"), expand(0, 0, 0), text("ab"), expand(0, 2, 2)]
        self.assertEqual(last(*calls), [1, 2, 11, 2, 2])


class TemplateTest(unittest.TestCase):
    def check_all(self, rows):
        for row, answer in rows:
            with self.subTest(row=row):
                self.assertEqual(last(template(0, row)), [answer])

    def test_how_many_places(self):
        self.check_all([
            ("", 1), ("abc", 1), ("$0", 1), ("$1", 2), ("$1$1$1", 2), ("$1$2$0", 3), ("${9}", 2),
            ("${1:a${2:b}}", 3), ("${1|a,b|}", 2), ("$1${1/u}${1/l}${1/c}", 2), ("$S", 1),
            ("$0$1$2$3$4$5$6$7$8$9", 10), ("${1:}", 2), ("${1||}", 2), ("${1|,|}", 2),
            ("}", 1), ("{}|:,/", 1), ("\\$\\}\\\\", 1), ("${1:\\}}", 2), ("${1|$}{\\,\\|\\\\|}", 2),
        ])

    def test_refused_by_number_first(self):
        self.assertEqual(last(template(9, "a")), [1])
        self.assertEqual(last(template(10, "a")), [-2])
        self.assertEqual(last(template(BIG, [256] * 61)), [-2])

    def test_sixty_bytes_and_one_more(self):
        self.assertEqual(last(template(0, [7] * 60)), [1])
        self.assertEqual(last(template(0, [7] * 61)), [-1])
        self.assertEqual(last(template(0, [36] * 200)), [-1])

    def test_byte_above_255_ahead_of_faults(self):
        self.assertEqual(last(template(0, [255])), [1])
        self.assertEqual(last(template(0, [256])), [-1])
        self.assertEqual(last(template(0, [36, 36, BIG])), [-1])

    def test_faults_by_a_byte_that_cannot_stand(self):
        self.check_all([
            ("$a", -1001), ("$$", -1001), ("ab$}", -1003), ("$s", -1001), ("\\a", -1001), ("x\\{", -1002),
            ("\\n", -1001), ("\\,", -1001), ("${a}", -1002), ("${S}", -1002), ("${}", -1002), ("${12}", -1003),
            ("${1;", -1003), ("${1/x}", -1004), ("${1/U}", -1004), ("${1/}", -1004), ("${1/uu}", -1005),
            ("${1/u:", -1005), ("${1|a|b|}", -1006), ("${1|a||}", -1006), ("${1|\\a|}", -1005),
            ("${1|\\}|}", -1005), ("${1|\\$|}", -1005), ("${1:$a}", -1005), ("${1:\\,}", -1005), ("$1\\", -1003),
        ])

    def test_faults_at_the_end_if_something_lacks(self):
        self.check_all([
            ("$", -1001), ("abc$", -1004), ("\\", -1001), ("${", -1002), ("${1", -1003), ("${1:", -1004),
            ("${1:abc", -1007), ("${1:${2:}", -1009), ("${1|", -1004), ("${1|a", -1005), ("${1|a,", -1006),
            ("${1|a\\", -1006), ("${1|a|", -1006), ("${1/", -1004), ("${1/u", -1005), ("${1:\\}", -1006),
        ])

    def test_the_leftmost_fault_is_told(self):
        self.check_all([("$a$b", -1001), ("${1:a$x", -1006), ("$1$x${2", -1003)])

    def test_fault_ahead_of_wrong(self):
        self.check_all([("${1:}${1:}$", -1011), ("${1/u}\\a", -1007), ("${1:$1}$", -1008)])

    def test_four_deep_and_five_deep(self):
        self.check_all([
            ("${1:${2:${3:${4:x}}}}", 5),
            ("${1:${2:${3:${4:$5${6}${7|a|}$0${5/u}}}}}", 8),
            ("${1:${2:${3:${4:${5:x}}}}}", -1016),
            ("ab${1:${2:${3:${4:c${5:x}}}}}", -1019),
            ("${1:${2:${3:${4:${5:$x", -1016),
            ("${1:${2:${3:${4:${5", -1019),
            ("${1:${2:${3:${4:}}}}${5:${6:${7:${8:}}}}", 9),
        ])

    def test_wrong_by_one(self):
        self.check_all([
            ("${1:a}${1:b}", -901), ("${1:a}${1|b|}", -901), ("${1|a|}${1|a|}", -901), ("${0:}${0:}", -901),
            ("${1:${1:a}}", -901), ("${1:a}${2:${1:b}}", -901), ("${1:}${1:}${2/u}", -901),
            ("${1:$1}${2/u}${3:}${3:}", -901), ("$1${1:a}${1}${1/u}", 2),
        ])

    def test_wrong_by_two(self):
        self.check_all([
            ("${1/u}", -902), ("$2${1/l}", -902), ("${1/u}${1/c}", -902), ("${2:${1/c}}", -902),
            ("${1:$1}${2/u}", -902), ("${1/u}$1", 2), ("${1/u}${1}", 2), ("${1/u}${1:}", 2), ("${1/u}${1|a|}", 2),
        ])

    # That place 0 stands at the end if it isn't there makes it no place that the bytes tell.
    def test_place_0_changed_and_told_nowhere_else(self):
        self.check_all([
            ("${0/u}", -902), ("$1${0/l}", -902), ("${0/c}$2", -902), ("${1:A${0/u}}", -902), ("${0/u}${0/l}", -902),
            ("${1:$1}${0/u}", -902), ("${1:a}${1:b}${0/u}", -901), ("${0/u}$", -1007),
            ("$0${0/u}", 1), ("${0/u}$0", 1), ("${0}${0/l}", 1), ("${0:a}${0/c}", 1), ("${0/u}${0|a,b|}", 1),
            ("${1:${0/u}}$0", 2), ("${1:${0/u}$0}", 2),
        ])

    def test_wrong_by_three(self):
        self.check_all([
            ("${1:$1}", -903), ("${1:a${1}b}", -903), ("${1:${1/u}}", -903), ("${0:$0}", -903),
            ("${1:$2}${2:$1}", -903), ("${1:${2:$1}}", -903), ("${1:${2:x${1/l}}}", -903),
            ("${1:$2}${2:$3}${3:$1}", -903), ("${3:${2/u}}${1:$3}${2:${1/c}}", -903),
            ("${4:$1}${1:$2}${2:$3}${3:$2}", -903), ("${1:${2:${3:${4:$1}}}}", -903),
        ])

    def test_no_ring(self):
        self.check_all([
            ("${1:$2}${2:$3}${3:x}", 4), ("${1:$2$3}${2:$4}${3:$4}$4", 5), ("${1:$2}$1$2", 3),
            ("${3:$2}${2:$1}${1:}", 4), ("${1|$1|}", 2),
        ])

    def test_refused_template_leaves_the_one_before(self):
        for row in ("$", "${1:}${1:}", "${1/u}", "${1:$1}", [256]):
            self.assertEqual(text_after(template(0, "ab"), template(0, row), expand(0, 0, 0)), "ab")
            self.assertEqual(last(template(0, row), expand(0, 0, 0)), [-2])

    def test_told_again(self):
        self.assertEqual(text_after(template(3, "ab"), template(3, "cd"), expand(3, 0, 0)), "cd")


class WrittenTest(unittest.TestCase):
    def check_all(self, rows):
        for row, shown in rows:
            with self.subTest(row=row):
                self.assertEqual(put(row), shown)

    def test_bytes_themselves(self):
        self.check_all([
            ("", ""), ("abc", "abc"), ("\\$\\}\\\\", "$}\\"), ("a}b{c|d:e,f/g", "a}b{c|d:e,f/g"),
            ("${1:a\\}b|c,}", "a}b|c,"), ("S1", "S1"),
        ])

    def test_choices(self):
        self.check_all([
            ("${1|a,b|}", "a"), ("${1|\\,\\|\\\\x,b|}", ",|\\x"), ("${1||}", ""), ("${1|,b|}", ""),
            ("${1|$2}{:|}", "$2}{:"), ("<${1|ab|}$1>", "<abab>"),
        ])

    def test_mirrors(self):
        self.check_all([
            ("${1:aB1z}-$1-${1}", "aB1z-aB1z-aB1z"), ("$1-${1:x}", "x-x"),
            ("${1:aB1zZ}-${1/u}", "aB1zZ-AB1ZZ"), ("${1:aB1zZ}-${1/l}", "aB1zZ-ab1zz"),
            ("${1:aBzZ}-${1/c}", "aBzZ-Abzz"), ("${1:1aB}-${1/c}", "1aB-1ab"), ("${1:}-${1/c}", "-"),
            ("${1:`@[{~}-${1/u}${1/l}${1/c}", "`@[{~-`@[{~`@[{~`@[{~"), ("${1|ab,c|}${1/u}", "abAB"),
            ("${1:AZaz}${1/u}${1/l}${1/c}", "AZazAZAZazazAzaz"), ("${1:za}${1/c}", "zaZa"),
        ])

    def test_mirrors_of_what_has_places_in_it(self):
        self.check_all([
            ("${1:a${2:b}c}-$1-$2-${2/u}", "abc-abc-b-B"), ("${1:$2$2}${2:x}-$1", "xxx-xx"),
            ("${3:${2/u}}${2:${1/c}}${1:ab}-$3", "ABAbab-AB"),
        ])

    def test_changes_leave_bytes_above_127(self):
        rows = template(0, [36, 123, 49, 58, 228, 196, 255, 125] + [36, 123, 49, 47, 117, 125])
        self.assertEqual(text_after(rows, expand(0, 0, 0)), "\xe4\xc4\xff" * 2)


if __name__ == "__main__":
    unittest.main()
