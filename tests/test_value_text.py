"""Points 7, 8 and 9: the canonical text of a value, reading a text, and a text within a longer one."""

import copy
import unittest

from formatfit.errors import BadValue, EndError, SignError
from formatfit.value_text import format_value, parse_value, value_prefix
from formatfit.values import is_value

CANONICAL = [
    (0, "0"), (7, "7"), (-7, "-7"), (10, "10"), (1000000, "1000000"), (-1000000, "-1000000"), (-100, "-100"),
    ("", '""'), ("a", '"a"'), ("z" * 20, '"' + "z" * 20 + '"'), ("root", '"root"'),
    ([], "[]"), ([0], "[0]"), ([1, -2, "ab"], '[1, -2, "ab"]'), ([[], [[]], {}], "[[], [[]], {}]"),
    ({}, "{}"), ({"a": 0}, "{a: 0}"), ({"b": 1, "a": "x"}, '{a: "x", b: 1}'),
    ({"b": 0, "ab": 0, "a1": 0, "a": 0, "a0": 0}, "{a: 0, a0: 0, a1: 0, ab: 0, b: 0}"),
    ({"a": {}, "b": [], "c": ("t", {})}, "{a: {}, b: [], c: t({})}"),
    (("a", 0), "a(0)"), (("abcdefg8", ""), 'abcdefg8("")'), (("a", ("b", [1, 2])), "a(b([1, 2]))"),
    ([("x", {"k": [0, 1]}), -5], "[x({k: [0, 1]}), -5]"),
]

# Texts that are read, and their canonical texts.
WITH_SPACES = [
    (" 0", "0"), ("0 ", "0"), ("   -12   ", "-12"), (' "ab" ', '"ab"'), ("[ ]", "[]"), (" [ ] ", "[]"),
    ("{ }", "{}"), ("  {  }  ", "{}"), ("[1,2]", "[1, 2]"), (" [ 1 ,  2 ] ", "[1, 2]"), ("[1 ,2]", "[1, 2]"),
    ("{a:0}", "{a: 0}"), (" { a : 0 , b : 1 } ", "{a: 0, b: 1}"), ("{a :0,b :1}", "{a: 0, b: 1}"),
    ("a (0)", "a(0)"), (" a ( 0 ) ", "a(0)"), ("a( b (  [ ]  ) )", "a(b([]))"), ("[a(0),{a:[]}]", "[a(0), {a: []}]"),
    ("[                1]", "[1]"),
]

# Texts that no text of a value begins with, and the place of the first wrong character.
WRONG_SIGNS = [
    # The first character.
    ("]", 0), ("}", 0), ("(", 0), (")", 0), (",", 0), (":", 0), ("A", 0), ("+1", 0), (".", 0), ("'a'", 0), ("_", 0),
    ("\t1", 0), ("\n1", 0), ("\r", 0), ("\u00a0", 0), ("\u00e9", 0), ("\u0663", 0), ("#", 0), ("=", 0),
    # With spaces ahead.
    (" ]", 1), ("   ,", 3), ("  \t1", 2),
    # Integers.
    ("-0", 1), ("-00", 1), ("- 1", 1), ("--1", 1), ("-a", 1), ("-]", 1), ("01", 1), ("00", 1), ("0123", 1),
    ("1 2", 2), ("1a", 1), ("1.0", 1), ("1-", 1), ("1_0", 1), ("12]", 2), ("1,", 1), ("1:", 1), ("1(", 1), ("1\t", 1),
    ("1\n", 1), ("12 \n", 3), ("1\u0660", 1), ("[-0]", 2), ("[01]", 2), ("[1 2]", 3), ("[1 -", 3), ("[-01]", 2),
    # Texts.
    ('"A"', 1), ('"a1"', 2), ('"a b"', 2), ('"a\t"', 2), ('" "', 1), ('"a-"', 2), ('"a""b"', 3), ('"a"b', 3),
    ('""a', 2), ('"\u00e9"', 1), ('"ab"]', 4), ('"a" "b"', 4), ('"a\\"', 2), ('"[', 1), ('"ab\n', 3),
    # Names and tags.
    ("aB(0)", 1), ("a_(0)", 1), ("a-", 1), ("a b(0)", 2), ("a1 2(0)", 3), ("a]", 1), ("a,", 1), ("a:", 1),
    ("a{", 1), ("a[", 1), ("a\"", 1), ("a.", 1), ("a\t(0)", 1), ("{a b:0}", 3), ("{aB:0}", 2), ("{1:0}", 1),
    ("{A:0}", 1), ("{\"a\":0}", 1), ("{-", 1), ("{a\u00e9:0}", 2), ("{[", 1), ("{(", 1), ("{:", 1), ("{,", 1),
    # Lists.
    ("[,", 1), ("[,1]", 1), ("[1,]", 3), ("[1, ]", 4), ("[1,,2]", 3), ("[1}", 2), ("[1)", 2), ("[)", 1), ("[}", 1),
    ("[1:2]", 2), ("[]]", 2), ("[] []", 3), ("[1]1", 3), ("[[1]]]", 5),
    ("[[],[]}", 6), ("[1\n]", 2), ("[\n]", 1), ('["a" 1]', 5), ("[] ,", 3),
    # Records.
    ("{a}", 2), ("{a 0}", 3), ("{a:}", 3), ("{a: }", 4), ("{a::0}", 3), ("{a:0,}", 5), ("{a:0, }", 6), ("{a:0,,", 5),
    ("{a:0]", 4), ("{a:0)", 4), ("{a:0 b:0}", 5), ("{a,", 2), ("{]", 1), ("{)", 1), ("{}}", 2), ("{a:0}b", 5),
    ("{a(0)}", 2), ("{a:0,1:0}", 5), ("{a:0:", 4), ("{a=0}", 2), ("{\ta:0}", 1), ("{a:b}", 4), ("{0}", 1),
    # Choices.
    ("a()", 2), ("a( )", 3), ("a(0,", 3), ("a(0,1)", 3), ("a(0]", 3), ("a(0}", 3), ("a(0 1)", 4), ("a(0))", 4),
    ("a(0)b", 4), ("a(0) (0)", 5), ("a((0))", 2), ("a(,", 2), ("a(:", 2), ("a(0:", 3), ("a(b)", 3), ("a(]", 2),
    ("9a(0)", 1),
    # Far within, and the last character.
    ("[0, {a: b([1, 2}", 15), ('{a: [0, "x", t({})], b: 00}', 25), ("[1, 2, 3, 4;", 11), ("[a(0), b(1), c(2)}", 17),
    # Behind what is beyond the bounds.
    ("10000001x", 8), ("[9999999999, ]", 13), ('"' + "a" * 21 + "1", 22), ("{b:0,a:0,}", 9), ("{a:0,a:0]", 8),
    ("abcdefghi(]", 10), ("[" * 30 + ";", 30), ("[" * 21 + "]" * 22, 42), ("[" + "0," * 400 + "]", 801),
    ("{" + ",".join("f" + str(k) + ":0" for k in range(9)) + ",}", 46),
    ("{abcdefghi:0;", 12),
]

BEGINNINGS = [
    "", " ", "     ", "-", " -", '"', '"a', '"abc', "a", "abc1", "a ", "a(", "a( ", "a(0", "a(0 ", "a(b", "a(b(0)",
    "[", "[ ", "[0", "[0 ", "[0,", "[0, ", "[0, -", "[[]", "[[", "{", "{ ", "{a", "{a ", "{a:", "{a: ", "{a:0", "{a:0 ",
    "{a:0,", "{a:0, ", "{a:0,b", "{a:{", "{a:b", '{a:"', "[a(0)", "[" * 21, "[" * 3000, "{a:" * 3000, "a(" * 3000,
    "[99999999", '"' + "a" * 30, "{b:0,a:0", "{a:0,a", "abcdefghi", "abcdefghi(0", "[" + "1," * 500,
]


def nested_text(depth, inner="0"):
    return "[" * depth + inner + "]" * depth


# Texts of the right form of what is beyond the bounds.
BEYOND = [
    "1000001", "-1000001", "10000000", "-10000000", "9" * 30, "-" + "9" * 30, "1" + "0" * 6000, " 1000001 ",
    '"' + "a" * 21 + '"', '"' + "a" * 5000 + '"',
    "abcdefghi(0)", "a12345678(0)", "{abcdefghi: 0}", "{a: 0, abcdefghi: 0}", "a" * 5000 + "(0)",
    "{b: 0, a: 0}", "{a: 0, c: 0, b: 0}", "{ab: 0, a: 0}", "{a1: 0, a0: 0}", "{aa: 0, a9: 0}",
    "{a: 0, a: 0}", "{a: 0, a: 1}", "{a: 0, b: 0, b: 0}", "{a: 0, b: 0, a: 0}",
    "{" + ", ".join("f" + str(k) + ": 0" for k in range(9)) + "}",
    "[" + ", ".join(["0"] * 300) + "]", "[" + ", ".join(["0"] * 3000) + "]",
    nested_text(21), nested_text(20, "[]"), nested_text(20, "{}"), nested_text(20, "a(0)"), nested_text(3000),
    "{a: " * 21 + "0" + "}" * 21, "a(" * 21 + "0" + ")" * 21,
]

WITHIN = [
    "1000000", "-1000000", '"' + "a" * 20 + '"', "abcdefgh(0)", "{abcdefgh: 0}",
    "{" + ", ".join("f" + str(k) + ": 0" for k in range(8)) + "}",
    "[" + ", ".join(["0"] * 299) + "]", nested_text(20), nested_text(19, "[]"),
    "{a: " * 20 + "0" + "}" * 20, "a(" * 20 + "0" + ")" * 20,
]

OUTER = ["[{}]", "[0, {}]", "[{}, 0]", "{{a: {}}}", "{{a: 0, b: {}}}", "a({})", "[[{{a: t([{}])}}]]"]


def wrapped(text):
    return [outer.format(text) for outer in OUTER]


class Writing(unittest.TestCase):
    def test_canonical_texts(self):
        for value, text in CANONICAL:
            with self.subTest(text=text):
                self.assertEqual(format_value(value), text)

    def test_the_argument_is_not_changed(self):
        value = [{"b": 1, "a": {"d": 0, "c": 0}}]
        before = copy.deepcopy(value)
        self.assertEqual(format_value(value), "[{a: {c: 0, d: 0}, b: 1}]")
        self.assertEqual(value, before)
        self.assertEqual(list(value[0]), ["b", "a"])

    def test_values_above_the_bounds(self):
        self.assertEqual(format_value(2000000), "2000000")
        self.assertEqual(format_value([0] * 400), "[" + ", ".join(["0"] * 400) + "]")
        value = 0
        for _ in range(40):
            value = [value]
        self.assertEqual(format_value(value), nested_text(40))


class Reading(unittest.TestCase):
    def test_canonical_texts(self):
        for value, text in CANONICAL:
            with self.subTest(text=text):
                self.assertEqual(parse_value(text), value)
                self.assertIs(type(parse_value(text)), type(value))

    def test_spaces(self):
        for text, canonical in WITH_SPACES:
            with self.subTest(text=text):
                self.assertEqual(format_value(parse_value(text)), canonical)

    def test_names_of_a_record_are_ascending(self):
        value = parse_value("{a: {a: 0, b: 0}, a0: 0, b: 0}")
        self.assertEqual(list(value), ["a", "a0", "b"])
        self.assertEqual(list(value["a"]), ["a", "b"])

    def test_within_the_bounds(self):
        for text in WITHIN:
            with self.subTest(text=text):
                self.assertTrue(is_value(parse_value(text)))
                self.assertEqual(format_value(parse_value(text)), text)

    def test_beyond_the_bounds(self):
        for text in BEYOND:
            with self.subTest(text=text[:60]):
                self.assertRaises(BadValue, parse_value, text)

    def test_beyond_the_bounds_within_another_value(self):
        for text in BEYOND:
            for outer in wrapped(text):
                with self.subTest(text=outer[:60]):
                    self.assertRaises(BadValue, parse_value, outer)

    def test_wrong_signs(self):
        for text, place in WRONG_SIGNS:
            with self.subTest(text=text[:60]):
                with self.assertRaises(SignError) as caught:
                    parse_value(text)
                self.assertEqual(caught.exception.place, place)

    def test_wrong_signs_whatever_follows(self):
        for text, place in WRONG_SIGNS:
            for rest in ("", " ", "0", "]", "}", ")", '"'):
                with self.subTest(text=text[:60], rest=rest):
                    with self.assertRaises(SignError) as caught:
                        parse_value(text[:place + 1] + rest)
                    self.assertEqual(caught.exception.place, place)

    def test_what_is_before_a_wrong_sign_can_go_on(self):
        for text, place in WRONG_SIGNS:
            with self.subTest(text=text[:60]):
                try:
                    parse_value(text[:place])
                except (EndError, BadValue):
                    pass

    def test_beginnings(self):
        for text in BEGINNINGS:
            with self.subTest(text=text[:60]):
                self.assertRaises(EndError, parse_value, text)

    def test_beginnings_of_canonical_texts(self):
        for value, text in CANONICAL:
            for end in range(len(text)):
                with self.subTest(text=text[:end]):
                    if isinstance(value, int) and end > 0 and text[:end] != "-":
                        self.assertEqual(parse_value(text[:end]), int(text[:end]))
                    else:
                        self.assertRaises(EndError, parse_value, text[:end])


class Prefixes(unittest.TestCase):
    def check(self, text, place, expected):
        with self.subTest(text=text[:60], place=place):
            made = value_prefix(text, place)
            self.assertIs(type(made), tuple)
            self.assertEqual(made, expected)
            self.assertIs(type(made[1]), bool)

    def test_whole_texts(self):
        for value, text in CANONICAL:
            self.check(text, 0, (value, True, len(text)))
            self.check("  " + text, 0, (value, True, len(text) + 2))
            self.check("ab, " + text, 3, (value, True, len(text) + 4))
            self.check("ab, " + text, 4, (value, True, len(text) + 4))

    def test_anything_may_stand_behind(self):
        for value, text in CANONICAL:
            for behind in (" ", "   ", "]", ")", ",", ":", "}", "\n", "\t", "A", "a", "(", "[", "{", '"', " 1", "-", "="):
                self.check(text + behind, 0, (value, True, len(text)))
                self.check("?? " + text + behind, 2, (value, True, len(text) + 3))

    def test_an_integer_ends_where_its_figures_end(self):
        self.check("12", 0, (12, True, 2))
        self.check("12]", 0, (12, True, 2))
        self.check("12a", 0, (12, True, 2))
        self.check("12-3", 0, (12, True, 2))
        self.check("12 3", 0, (12, True, 2))
        self.check("-12.5", 0, (-12, True, 3))
        self.check("0x", 0, (0, True, 1))
        self.check("0,1", 0, (0, True, 1))
        self.check("12\u0663", 0, (12, True, 2))
        self.check("120034", 2, (0, True, 3))
        self.check("120034", 4, (34, True, 6))

    def test_other_values_end_with_their_last_token(self):
        self.check("[1, 2][3]", 0, ([1, 2], True, 6))
        self.check("[1, 2] ", 0, ([1, 2], True, 6))
        self.check('"ab""c"', 0, ("ab", True, 4))
        self.check('"ab""c"', 4, ("c", True, 7))
        self.check("a(0)(1)", 0, (("a", 0), True, 4))
        self.check("{a: 0}}", 0, ({"a": 0}, True, 6))
        self.check("x [ 1 , { } ] y", 1, ([1, {}], True, 13))

    def test_the_names_are_ascending(self):
        value, _, _ = value_prefix("x {a: 0, b: 0} x", 1)
        self.assertEqual(list(value), ["a", "b"])

    def test_beyond_the_bounds(self):
        for text in BEYOND:
            text = text.strip()
            for ahead in ("", "  ", "x y "):
                for behind in ("", " ", "!", "]"):
                    with self.subTest(text=text[:60], ahead=ahead, behind=behind):
                        value, fits, end = value_prefix(ahead + text + behind, len(ahead.rstrip()))
                        self.assertIs(fits, False)
                        self.assertTrue(is_value(value))
                        self.assertEqual(end, len(ahead) + len(text))

    def test_wrong_signs_with_places_of_the_whole_text(self):
        wrong = [
            ("]", 0, 0), ("x ]", 1, 2), ("x [1;", 2, 4), ("[1, 2}", 0, 5), ("ab a b", 2, 5), ("00-0", 2, 3),
            ("  {a:}", 0, 5), ("  {a:}", 2, 5), ("1,2", 1, 1),
        ]
        for text, start, place in wrong:
            with self.subTest(text=text):
                with self.assertRaises(SignError) as caught:
                    value_prefix(text, start)
                self.assertEqual(caught.exception.place, place)

    def test_wrong_signs_behind_what_is_beyond_the_bounds(self):
        with self.assertRaises(SignError) as caught:
            value_prefix("x [99999999;", 2)
        self.assertEqual(caught.exception.place, 11)
        with self.assertRaises(SignError) as caught:
            value_prefix("x {b:0,a:0,}", 2)
        self.assertEqual(caught.exception.place, 11)

    def test_the_end(self):
        for text in BEGINNINGS:
            for ahead in ("", "1 ", "x"):
                with self.subTest(text=text[:60], ahead=ahead):
                    self.assertRaises(EndError, value_prefix, ahead + text, len(ahead))
        self.assertRaises(EndError, value_prefix, "12", 2)
        self.assertRaises(EndError, value_prefix, "12  ", 2)


if __name__ == "__main__":
    unittest.main()
