"""Points 13, 14 and 15 and formatfit/format_text.py: the canonical text of a format, and reading one."""

import random
import unittest

from formatfit.errors import BadFormat, LineError
from formatfit.format_text import format_text, parse_format
from formatfit.formats import Format
from listing import random_format

# A format with all definitions, and its canonical text.
EVERYTHING = Format("all", {
    "v": ("text", 9), "x": ("any",), "i": ("integer", -999999, 999999), "none": ("record", ()),
    "n": ("list", "i", 0, 9), "one": ("record", (("a", "i", "required"),)),
    "all": ("record", (
        ("a", "i", "required"), ("b", "n", "optional"), ("c", "x", "default", {"b": [1, -2], "a": ("t", "")}),
        ("d", "v", "required"),
    )),
    "pick": ("choice", (("a", "i"), ("b", "pick")), None),
    "safe": ("choice", (("a", "i"), ("b", "n")), ("b", [1, 2])), "z": ("choice", (("t", "x"),), ("t", {})),
    "last": ("record", (("a", "x", "default", -5), ("b", "x", "optional"))),
})
EVERYTHING_TEXT = """root all
all record a i, b n optional, c x default {a: t(""), b: [1, -2]}, d v
i integer -999999 999999
last record a x default -5, b x optional
n list i 0 9
none record
one record a i
pick choice a i, b pick
safe choice a i, b n fallback b([1, 2])
v text 9
x any
z choice t x fallback t({})"""

# Words that could be taken for others: each is a name of a definition, a field, a type and a tag.
WORDS = ["any", "choice", "default", "fallback", "integer", "list", "optional", "record", "required", "root", "text"]


def body(line, root="a"):
    """A text with a line for the definition b, between a and c, and the format's root."""
    return "\n".join(["root " + root, "a any", line, "c integer 0 5"])


def definition(line):
    return parse_format(body(line)).of("b")


class Writing(unittest.TestCase):
    def test_everything(self):
        self.assertEqual(format_text(EVERYTHING), EVERYTHING_TEXT)

    def test_each_definition(self):
        lines = [
            (("any",), "any"), (("integer", 0, 0), "integer 0 0"), (("integer", -10, -1), "integer -10 -1"),
            (("text", 0), "text 0"), (("list", "a", 0, 0), "list a 0 0"), (("list", "b", 2, 9), "list b 2 9"),
            (("record", ()), "record"), (("record", (("f", "a", "required"),)), "record f a"),
            (("record", (("f", "a", "optional"),)), "record f a optional"),
            (("record", (("f", "a", "default", "ab"),)), 'record f a default "ab"'),
            (("record", (("f", "a", "default", []), ("g", "b", "required"))), "record f a default [], g b"),
            (("choice", (("t", "a"),), None), "choice t a"),
            (("choice", (("t", "a"), ("u", "b")), ("t", 0)), "choice t a, u b fallback t(0)"),
        ]
        for made, text in lines:
            with self.subTest(text=text):
                self.assertEqual(format_text(Format("b", {"b": made})), "root b\nb " + text)

    def test_definitions_by_ascending_names(self):
        names = ["b", "a1", "ab", "a", "a0", "z"]
        text = "root z\n" + "\n".join(name + " any" for name in sorted(names))
        self.assertEqual(format_text(Format("z", {name: ("any",) for name in names})), text)

    def test_more_than_a_format_has(self):
        form = Format("t0", {
            "t0": ("record", tuple((name, "t1", "optional") for name in "abcdefgh")), "t1": ("integer", 0, 5),
        })
        fields = ", ".join(name + " t1 optional" for name in "abcdefgh")
        self.assertEqual(format_text(form), "root t0\nt0 record " + fields + "\nt1 integer 0 5")

    def test_the_argument_stays(self):
        names = list(EVERYTHING.definitions)
        format_text(EVERYTHING)
        self.assertEqual(list(EVERYTHING.definitions), names)
        self.assertEqual(list(EVERYTHING.of("all")[1][2][3]), ["b", "a"])


class Reading(unittest.TestCase):
    def check(self, text, form):
        with self.subTest(text=text):
            made = parse_format(text)
            self.assertIs(type(made), Format)
            self.assertEqual((made.root, made.definitions), (form.root, form.definitions))
            self.assertEqual(format_text(made), format_text(form))

    def test_everything(self):
        self.check(EVERYTHING_TEXT, EVERYTHING)

    def test_what_is_written_is_read(self):
        made = random.Random(3)
        for _ in range(300):
            form = random_format(made, made.randint(1, 5))
            self.check(format_text(form), form)

    def test_bounds(self):
        for line in [
            "b integer -999999 999999", "b integer 999999 999999", "b integer -999999 -999999", "b integer -1 0",
            "b text 0", "b text 9", "b list a 0 0", "b list a 9 9", "b list b 0 9", "b record", "b record f a",
            "b record f a, g a, h a, i a", "b choice t a, u a, v a, w a", "b record abcdefgh a", "b choice abcdefgh a",
        ]:
            with self.subTest(line=line):
                self.assertEqual(format_text(parse_format(body(line))), body(line))
        self.check("root abcdefgh\nabcdefgh any", Format("abcdefgh", {"abcdefgh": ("any",)}))
        twelve = ["d" + str(at) for at in sorted(range(12), key=str)]
        text = "root d0\n" + "\n".join(name + " any" for name in twelve)
        self.check(text, Format("d0", {name: ("any",) for name in twelve}))

    def test_spaces(self):
        for line in [
            "b   record   f   a   default   [1,2]  ,  g   c   optional  ,  h   b  ",
            "  b record f a default[1,2],g c optional,h b",
            "b record f a default [ 1 , 2 ] ,g c optional ,h b", "b record f a default[ 1,2 ]   , g c optional,  h b",
        ]:
            with self.subTest(line=line):
                fields = (("f", "a", "default", [1, 2]), ("g", "c", "optional"), ("h", "b", "required"))
                self.assertEqual(definition(line), ("record", fields))
        for line in [
            "b choice t a, u c fallback t({x: 0})", "b choice t a,u c fallback t({x: 0})",
            "  b   choice  t  a  ,  u   c    fallback    t ( { x : 0 } )   ", "b choice t a ,u c fallback t({x:0})",
        ]:
            with self.subTest(line=line):
                self.assertEqual(definition(line), ("choice", (("t", "a"), ("u", "c")), ("t", {"x": 0})))
        for line, made in [
            ("b   any", ("any",)), (" b any ", ("any",)), ("b  integer   -5    5 ", ("integer", -5, 5)),
            ("  b text  3  ", ("text", 3)), ("b  list  a  0   9   ", ("list", "a", 0, 9)),
            ("b record    ", ("record", ())),
            ("   b    record", ("record", ())), ("b choice  t   a   ", ("choice", (("t", "a"),), None)),
            ("b record f a ,g a", ("record", (("f", "a", "required"), ("g", "a", "required")))),
        ]:
            with self.subTest(line=line):
                self.assertEqual(definition(line), made)
        self.check("   root    a  \n  a    any   ", Format("a", {"a": ("any",)}))

    def test_no_space_where_none_is_needed(self):
        for value, made in [('"x"', "x"), ("[]", []), ("{}", {}), ("[1]", [1]), ('""', ""), ("{a:0}", {"a": 0})]:
            with self.subTest(value=value):
                fields = (("f", "a", "default", made), ("g", "a", "required"))
                self.assertEqual(definition(f"b record f a default{value}, g a"), ("record", fields))
                self.assertEqual(definition(f"b record f a default{value},g a"), ("record", fields))

    def test_a_space_where_one_is_needed(self):
        for value in ("5", "-5", "t(0)", "0"):
            self.assertEqual(definition(f"b record f a default {value}")[1][0][:3], ("f", "a", "default"))
            self.assertRaises(LineError, definition, f"b record f a default{value}")
        self.assertEqual(definition("b choice t a fallback t(0)"), ("choice", (("t", "a"),), ("t", 0)))
        self.assertRaises(LineError, definition, "b choice t a fallbackt(0)")

    def test_words_as_names(self):
        for word in WORDS:
            with self.subTest(word=word):
                one = f"root {word}\n{word} any"
                self.check(one, Format(word, {word: ("any",)}))
                rows = [
                    (f"list {word} 0 1", ("list", word, 0, 1)),
                    (f"record {word} {word}", ("record", ((word, word, "required"),))),
                    (f"record {word} {word} optional", ("record", ((word, word, "optional"),))),
                    (f"choice {word} {word}", ("choice", ((word, word),), None)),
                ]
                for line, made in rows:
                    self.check(f"root {word}\n{word} {line}", Format(word, {word: made}))
                first = f"root a\na record {word} {word} default {word}(0)"
                lines = f"{first}\n{word} choice {word} z fallback {word}(0)\nz any"
                self.check(lines, Format("a", {
                    "a": ("record", ((word, word, "default", (word, 0)),)),
                    word: ("choice", ((word, "z"),), (word, 0)), "z": ("any",),
                }))

    def test_words_as_names_side_by_side(self):
        fields = "default optional, optional optional optional"
        self.assertEqual(
            parse_format(f"root root\noptional any\nroot record {fields}").of("root"),
            ("record", (("default", "optional", "required"), ("optional", "optional", "optional"))),
        )
        self.assertEqual(
            parse_format("root fallback\nfallback choice fallback fallback, x y fallback x(1)\ny any").of("fallback"),
            ("choice", (("fallback", "fallback"), ("x", "y")), ("x", 1)),
        )
        self.assertEqual(
            parse_format("root root\ndefault any\nroot record default default default default(0)").of("root"),
            ("record", (("default", "default", "default", ("default", 0)),)),
        )

    def test_records_have_ascending_names(self):
        made = definition("b record f a default {a: 0, b: {c: 0, d: 0}}")[1][0][3]
        self.assertEqual([list(made), list(made["b"])], [["a", "b"], ["c", "d"]])


WRONG_LINES = [
    "", " ", "     ", "b", "b ", "B any", "1 any", "b_c any", "-", ",", "b,", "b any,", "b any any", "b any 0", "bany",
    "b anyx", "b Any", "b other", "b required", "b 5", "b integer", "b integer 0", "b integer 0 1 2", "b integer 0 1 x",
    "b integer 0, 1", "b integer 01 2", "b integer 0 01", "b integer -0 1", "b integer 0 -0", "b integer -01 1",
    "b integer 00 1",
    "b integer - 1 2", "b integer --1 2", "b integer +1 2", "b integer -5-3", "b integer-5 3", "b integer5 6",
    "b integer a 1",
    "b integer 1.0 2", "b integer 1 2a", "b integer 1a 2", "b integer 0 1,", "b integer 1_0 20", 'b integer "a" 1',
    "b integer 1 -",
    "b text", "b text -1", "b text 01", "b text 1 2", "b text a", "b text -0", "b text 00", "b text1", "b text 1x",
    "b text 1,",
    "b list", "b list a", "b list a 0", "b list a 0 1 2", "b list 0 1", "b list a -1 1", "b list a 0 -1",
    "b list a 00 1",
    "b list a 0 01", "b list a0 1", "b list A 0 1", "b list a 0 1 b", "b list a, 0 1", "b list a_ 0 1", "b list 1 0 1",
    "b list a -0 1",
    "b record f", "b record f a,", "b record ,", "b record , f a", "b record f a,, g a", "b record f a g a",
    "b record f, a",
    "b record f a required", "b record f a Optional", "b record f a optional optional", "b record f a optional g a",
    "b record f a default", "b record f a default ,", "b record f a default, g a", "b record F a", "b record f A",
    "b record 1 a",
    "b record f 1", "b record f a 0", "b record,f a", "b recordf a", "b record f a b", "b record f a default 0 0",
    "b record f a default 01", "b record f a default -0", "b record f a default 0 optional", "b record f a default x",
    "b record f a default x(", "b record f a default x()", "b record f a default [1", "b record f a default [1,]",
    "b record f a default [1]]", "b record f a default {a}", 'b record f a default "A"', 'b record f a default "a',
    "b record f a default 1.0",
    "b record f a default - 1", "b record f a default-1", "b record f a default1", "b record f a default 0x",
    "b record f a defaults 0",
    "b record f a default [1] 2", "b record f a default [] ] , g a", "b record f a default 0; g a", "b record f a,",
    "b record f_ a",
    "b record f a default (0)", "b record f a optional,", "b record f a default 0,", "b record f a default [0],",
    'b record f a"x"',
    "b record f a[1]", "b record f a default 5 g a", "b record f a, g", "b record f a, g a h", "b record f a . g a",
    "b choice", "b choice t", "b choice t a,", "b choice t a u a", "b choice ,", "b choice , t a",
    "b choice t a,, u a", "b choice t, a",
    "b choice t a optional", "b choice t a fallback", "b choice t a, fallback", "b choice t a, fallback t(0)",
    "b choice fallback t(0)",
    "b choice t a fallback t(0),", "b choice t a fallback t(0), u a", "b choice t a fallback t(0) u a",
    "b choice t a fallback t",
    "b choice t a fallback t()", "b choice t a fallback t(0) fallback t(0)", "b choice t a fallback t(0))",
    "b choice t a fallback t(00)",
    "b choice t a fallback-1", "b choice t a fallbackt(0)", "b choice T a", "b choice t A", "b choice 1 a",
    "b choicet a", "b choice,t a",
    "b choice t a default t(0)", "b choice t a fallback (0)", "b choice t a;", "b choice t a fallback t(0",
    "b choice t a fallback 01",
    "b other t a", "b other f a, g a", "b choices t a", "b required t a", "b root a", "b fallback t a",
    "b integers 0 1",
    "b any~", "b~any", "b text~1", "b text 1~", "b integer 0~1", "b record f~a", "b record f a~, g a", "b record~f a",
    "b record f a~g a", "b choice t~a", "b choice t a~", "b choice t a~u a", "b list a~0 1", "b list a 0~1",
    "b choice~t a",
    "root b", "b b any", "b: any", "b = any", "# b any",
]

WHITE = ["\t", "\r", "\x0b", "\x0c", "\u00a0", "\u2003", "\x00", "\u2028", "\x85", "\x1c"]


class WrongLines(unittest.TestCase):
    def check(self, text, line):
        with self.subTest(text=text[:80]):
            with self.assertRaises(LineError) as caught:
                parse_format(text)
            self.assertEqual(caught.exception.line, line)

    def test_first_lines(self):
        wrong = [
            "", " ", "root", "root ", "roots a", "Root a", "root A", "root 1", "root a b", "root a,", "roota",
            "root a_", "a any",
            "root -", "root \u00e9", "root root root", "\troot a", "root\ta", "root a\r", "root, a", "root: a",
            "root a.", "root 0", "a",
            "root \"a\"", "ROOT a", "roo t a", "root~a", "root a~", "~root a",
        ]
        for line in wrong:
            self.check(line, 1)
            self.check(line + "\na any", 1)
            self.check(line + "\nwrong line here", 1)
        self.check("\nroot a\na any", 1)
        self.check("\n", 1)

    def test_a_middle_and_a_last_line(self):
        for line in WRONG_LINES:
            self.check(body(line), 3)
            self.check("root a\na any\n" + line, 3)
            self.check("root a\n" + line, 2)
            self.check(f"root a\na any\nc any\nd any\n{line}\ne any", 5)

    def test_the_first_of_several(self):
        self.check("root a\na any\nb\nc text\nd", 3)
        self.check("root a\nb any 0\nc", 2)
        self.check("root a b\nb any 0\nc", 1)

    def test_empty_lines(self):
        self.check("root a\n", 2)
        self.check("root a\n\na any", 2)
        self.check("root a\na any\n", 3)
        self.check("root a\na any\n\n", 3)
        self.check("root a\na any\n\nb any", 3)
        self.check("root a\na any\n   \nb any", 3)
        self.check("root a\na any\nb any\n ", 4)

    def test_other_white_space(self):
        for sign in WHITE:
            self.check(f"root{sign}a\na any", 1)
            self.check(f"root a{sign}\na any", 1)
            self.check(f"{sign}root a\na any", 1)
            self.check(f"root a{sign}a any", 1)
            for line in ["b#any", "#b any", "b any#", "b integer#0 1", "b integer 0#1", "b record f#a",
                "b record f a#, g a",
                         "b record f a,#g a", "b record f a default [1,#2]", "b record f a default#0", "b record#",
                         "b text 1#",
                         "b choice t a fallback t(#0)", "b choice t a#fallback t(0)", "b list a 0 9#",
                         "b record f a#optional"]:
                self.check(body(line.replace("#", sign)), 3)

    def test_a_wrong_line_behind_right_ones_that_break_a_rule(self):
        for broken in [
            "a any\na any", "b any\na any", "a text 10", "a integer 5 0", "a list x 0 1", "a record g a, f a",
            "a any\nabcdefghi any",
            "a record f a default 9999999", "a choice t a fallback u(0)", "a integer 0 " + "9" * 5000,
        ]:
            lines = broken.count("\n") + 1
            self.check(f"root a\n{broken}\nz", lines + 2)
            self.check(f"root zz\n{broken}\nz any\n", lines + 3)

    def test_names_and_numbers_of_any_length_in_wrong_lines(self):
        self.check("root " + "a" * 5000 + "_\na any", 1)
        self.check("root a\n" + "a" * 5000 + " any any", 2)
        self.check("root a\na integer 0" + "9" * 5000 + " 5", 2)
        self.check("root a\na text -" + "9" * 5000, 2)
        self.check("root a\na record f a default " + "[" * 5000, 2)


class NoFormats(unittest.TestCase):
    def check(self, text):
        with self.subTest(text=text[:80]):
            self.assertRaises(BadFormat, parse_format, text)

    def test_names_of_definitions(self):
        for names in ["aa", "ba", "acb", "abb", "bab", "zy"]:
            self.check("root a\n" + "\n".join(name + " any" for name in names))
        self.check("root a\na any\na9 any\na10 any")
        self.check("root a\nab any\na any")
        for name in ["abcdefghi", "a" * 5000]:
            self.check(f"root {name}\n{name} any")
            self.check(f"root a\na any\n{name} any")

    def test_numbers_of_definitions(self):
        self.check("root a")
        self.check(" root  a ")
        for many in (13, 14):
            names = sorted("d" + str(at) for at in range(many))
            self.check("root d0\n" + "\n".join(name + " any" for name in names))

    def test_the_root(self):
        self.check("root b\na any")
        self.check("root abcdefghi\na any")

    def test_definitions(self):
        big = "9" * 5000
        for line in [
            "b integer 1 0", "b integer -1 -2", "b integer 0 1000000", "b integer -1000000 0", f"b integer 0 {big}",
            f"b integer -{big} 0", f"b integer -{big} {big}", f"b integer {big} {big}", "b integer 10000000 10000001",
            "b integer 100000000 1", "b integer 0 1234567890123", "b text 10", "b text 100", f"b text {big}",
            "b list a 0 10",
            "b list a 1 0", "b list a 10 10", f"b list a 0 {big}", f"b list a {big} {big}", "b list d 0 1",
            f"b list {'a' * 5000} 0 1",
            "b record f d", "b record g a, f a", "b record f a, f a", "b record f a, g a, h a, i a, j a",
            "b record abcdefghi a",
            "b record f a, f c optional", f"b record {'f' * 5000} a", f"b record f {'a' * 5000}",
            "b record f d optional",
            "b record f d default 0", "b choice t d", "b choice u a, t a", "b choice t a, t a",
            "b choice t a, u a, v a, w a, x a",
            "b choice abcdefghi a", f"b choice {'t' * 5000} a", "b choice t a, t a fallback t(0)",
        ]:
            self.check(body(line))

    def test_values_that_are_none_of_point_3(self):
        values = [
            "1000001", "-1000001", "9" * 5000, '"' + "a" * 21 + '"', "{b: 0, a: 0}", "{a: 0, a: 0}",
            "[" * 21 + "]" * 21,
            "[" * 5000 + "]" * 5000, "[" + ",".join(["0"] * 300) + "]", "abcdefghi(0)", "{abcdefghi: 0}",
            "{" + ", ".join("f" + str(at) + ": 0" for at in range(9)) + "}",
        ]
        for value in values:
            self.check(body(f"b record f a default {value}"))
            self.check(body(f"b record f a default [{value}], g a"))
            self.check(body(f"b record f a default {value}, g a default 0"))
            self.check(body(f"b record f a default 0, g a default {value}"))
            self.check(body(f"b choice t a fallback t({value})"))
        # What stands in place of it within the program would be written.
        self.check(body("b record f c default 1000001"))
        self.check(body("b record f c default " + "9" * 5000))

    def test_values_that_are_not_written(self):
        for value in ["6", "-1", '""', "[]", "{}", "c(0)"]:
            self.check(body(f"b record f c default {value}"))
            self.check(body(f"b choice t c fallback t({value})"))
        for value in ["0", '"t"', "[0]", "{t: 0}", "u(0)", "[]"]:
            self.check(body(f"b choice t c fallback {value}"))


if __name__ == "__main__":
    unittest.main()
