import unittest

from samples import A, B, C, EMPTY, KINDS, SIGNS, either, mixed, row, sign, times
from seek.texts import pattern_text

STROKED = ["\\", ".", "[", "]", "(", ")", "{", "}", "<", ">", "|", "^", "$", "&", "~"]
STROKED_IN_RUNS = ["\\", "[", "]", "^", "-"]


class PatternText(unittest.TestCase):
    def check(self, pattern, text):
        answer = pattern_text(pattern)
        self.assertIs(type(answer), str)
        self.assertEqual(answer, text)

    def test_each_kind(self):
        for pattern, text in KINDS:
            self.check(pattern, text)

    def test_signs(self):
        self.assertEqual(len(SIGNS), 94)
        for s in SIGNS:
            self.check(sign(s), "\\" + s if s in STROKED else s)

    def test_signs_in_runs(self):
        for s in SIGNS:
            written = "\\" + s if s in STROKED_IN_RUNS else s
            self.check(("in", ((s, s),)), "[" + written + "]")
            self.check(("out", ((s, s),)), "[^" + written + "]")
            if s != " ":
                self.check(("in", ((" ", s),)), "[ -" + written + "]")
            if s != "~":
                self.check(("out", ((s, "~"),)), "[^" + written + "-~]")

    def test_several_runs(self):
        self.check(("in", (("a", "c"), ("x", "x"), ("0", "9"))), "[a-cx0-9]")
        self.check(("out", (("x", "x"), ("x", "x"), ("-", "-"), ("+", "-"))), "[^xx\\-+-\\-]")
        self.check(("in", (("^", "^"), ("[", "]"))), "[\\^\\[-\\]]")

    def test_row(self):
        self.check(row(A, ("any",), ("begin",), sign("-")), "a.^-")
        self.check(row(either(A, B), C), "<:a|b>c")
        self.check(row(A, either(row(B, C), EMPTY)), "a<:bc|>")
        self.check(row(times(0, 1, A), times(1, None, either(A, B))), "a{0,1}<:a|b>{1,}")
        self.check(row(("group", 1, A), ("again", 1), sign("2")), "(a)&12")

    def test_or(self):
        self.check(either(row(A, B), C, EMPTY), "ab|c|")
        self.check(either(EMPTY, EMPTY), "|")
        self.check(either(times(0, 1, A), row(either(A, B), C)), "a{0,1}|<:a|b>c")

    def test_times(self):
        self.check(times(2, 5, row(A, B)), "<:ab>{2,5}")
        self.check(times(0, None, either(A, B), "little"), "<:a|b>{0,?}")
        self.check(times(1, 9, times(0, 1, A), "keep"), "<:a{0,1}>{1,9!}")
        self.check(times(0, 1, times(0, None, times(0, 1, A, "little"), "keep")), "<:<:a{0,1?}>{0,!}>{0,1}")
        self.check(times(0, 1, row(either(A, B), C)), "<:<:a|b>c>{0,1}")
        self.check(times(0, 1, ("group", 1, either(A, B))), "(a|b){0,1}")
        self.check(times(0, 1, ("again", 1)), "&1{0,1}")
        self.check(times(0, 1, sign("{")), "\\{{0,1}")
        self.check(times(0, 1, ("in", (("a", "b"),))), "[a-b]{0,1}")

    def test_brackets(self):
        for kind, mark in [("once", "!"), ("ahead", "+"), ("notahead", "-"), ("behind", "*"), ("notbehind", "/")]:
            self.check((kind, either(row(A, B), C)), "<" + mark + "ab|c>")
            self.check((kind, times(0, 1, A)), "<" + mark + "a{0,1}>")
            self.check(times(0, 1, (kind, A)), "<" + mark + "a>{0,1}")
        self.check(("group", 1, row(A, ("group", 2, either(A, B)))), "(a(a|b))")
        self.check(("have", 9, either(A, B), row(A, either(A, B))), "<9a|b~a<:a|b>>")
        self.check(("have", 1, sign("2"), sign("~")), "<12~\\~>")

    def test_row_without_parts(self):
        self.check(EMPTY, "")
        self.check(("group", 1, EMPTY), "()")
        self.check(times(0, 1, EMPTY), "<:>{0,1}")
        self.check(either(A, EMPTY, B), "a||b")
        self.check(("have", 1, EMPTY, EMPTY), "<1~>")
        self.check(("once", EMPTY), "<!>")
        self.check(("notbehind", EMPTY), "</>")

    def test_somewhat_beyond_the_bounds(self):
        self.check(row(*[A] * 12), "a" * 12)
        self.check(either(*[A] * 12), "|".join("a" * 12))
        self.check(times(12, 15, A, "little"), "a{12,15?}")
        self.check(("in", (("a", "b"),) * 10), "[" + "a-b" * 10 + "]")
        self.check(("again", 12), "&12")
        self.check(("have", 12, A, B), "<12a~b>")
        deep = A
        for number in range(1, 30):
            deep = ("group", number, deep)
        self.check(deep, "(" * 29 + "a" + ")" * 29)

    def test_each_pattern_has_a_text_of_its_own(self):
        patterns = set(mixed(2000))
        self.assertEqual(len({pattern_text(pattern) for pattern in patterns}), len(patterns))

    def test_asked_again(self):
        self.check(row(either(A, B), C), "<:a|b>c")
        self.check(either(A, B), "a|b")
        self.check(row(either(A, B), C), "<:a|b>c")


if __name__ == "__main__":
    unittest.main()
