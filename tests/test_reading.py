import itertools
import unittest

from samples import A, B, C, EMPTY, KINDS, SIGNS, either, mixed, row, sign, times
from seek.errors import Unread
from seek.texts import pattern_text, read_pattern

TOKENS = ["a", "&1", "(", ")", "<!", "<:", "<1", "~", ">", "{0,}", "|"]


class Reading(unittest.TestCase):
    def reads(self, text, pattern):
        answer = read_pattern(text)
        # repr tells kinds apart that are equal, as 1 and True are.
        self.assertEqual(repr(answer), repr(pattern), text)
        self.assertEqual(pattern_text(answer), text)

    def refuses(self, *texts):
        for text in texts + texts:
            with self.assertRaises(Unread, msg=repr(text)):
                read_pattern(text)


class WhatIsWritten(Reading):
    def test_each_kind(self):
        for pattern, text in KINDS:
            if pattern[0] in ("again", "have"):
                self.reads("(b)" + text, row(("group", 1, B), pattern))
            else:
                self.reads(text, pattern)

    def test_each_kind_within_each(self):
        for outer, outer_text in KINDS:
            if outer == A or A not in outer:
                continue
            for inner, inner_text in KINDS:
                if inner[0] == "group":
                    continue
                pattern = tuple(inner if item == A else item for item in outer)
                if outer[0] != "group":
                    pattern = either(pattern, ("group", 1, B))
                self.reads(pattern_text(pattern), pattern)

    def test_signs(self):
        for s in SIGNS:
            self.reads(pattern_text(sign(s)), sign(s))
            self.reads(pattern_text(row(sign(s), A)), row(sign(s), A))

    def test_runs(self):
        for low, high in itertools.combinations_with_replacement(SIGNS, 2):
            for kind in ["in", "out"]:
                pattern = (kind, ((low, high), ("b", "b")))
                self.reads(pattern_text(pattern), pattern)

    def test_row_without_parts(self):
        self.reads("", EMPTY)
        self.reads("()", ("group", 1, EMPTY))
        self.reads("|", either(EMPTY, EMPTY))
        self.reads("a||b", either(A, EMPTY, B))
        self.reads("<:>{0,1}", times(0, 1, EMPTY))
        self.reads("()<1~>", row(("group", 1, EMPTY), ("have", 1, EMPTY, EMPTY)))
        for mark, kind in [("!", "once"), ("+", "ahead"), ("-", "notahead"), ("*", "behind"), ("/", "notbehind")]:
            self.reads("<" + mark + ">", (kind, EMPTY))

    def test_wrapped(self):
        self.reads("<:a|b>c", row(either(A, B), C))
        self.reads("<:a|b>{0,1}", times(0, 1, either(A, B)))
        self.reads("<:ab>{0,1}c", row(times(0, 1, row(A, B)), C))
        self.reads("<:a{0,1}>{2,?}", times(2, None, times(0, 1, A), "little"))
        self.reads("<:<:a|b>c>{0,1}|<:a|b><:a|b>",
                   either(times(0, 1, row(either(A, B), C)), row(either(A, B), either(A, B))))

    def test_numbers_of_groups(self):
        self.reads("((a)(b))(c)", row(("group", 1, row(("group", 2, A), ("group", 3, B))), ("group", 4, C)))
        self.reads("<1(a)~(b)><+(c)>",
                   row(("have", 1, ("group", 1, A), ("group", 2, B)), ("ahead", ("group", 3, C))))
        self.reads("(a)&12", row(("group", 1, A), ("again", 1), sign("2")))
        self.reads("<12~>(a)", row(("have", 1, sign("2"), EMPTY), ("group", 1, A)))

    def test_mixed(self):
        for pattern in mixed(2000):
            self.reads(pattern_text(pattern), pattern)

    def test_asked_again(self):
        self.reads("(a)(b)", row(("group", 1, A), ("group", 2, B)))
        self.refuses("(a")
        self.reads("(a)(b)", row(("group", 1, A), ("group", 2, B)))
        self.reads("(a)", ("group", 1, A))


class Bounds(Reading):
    def test_runs(self):
        for kind, first in [("in", "["), ("out", "[^")]:
            self.reads(first + "a]", (kind, (("a", "a"),)))
            self.reads(first + "abcdefgh]", (kind, tuple((s, s) for s in "abcdefgh")))
            self.reads(first + "a-b" * 8 + "]", (kind, (("a", "b"),) * 8))
            self.refuses(first + "]", first + "abcdefghi]", first + "a-b" * 9 + "]")

    def test_low_and_high_of_a_run(self):
        self.reads("[a-b]", ("in", (("a", "b"),)))
        self.reads("[^ -~]", ("out", ((" ", "~"),)))
        self.reads("[#-&]", ("in", (("#", "&"),)))
        self.refuses("[a-a]", "[b-a]", "[^b-a]", "[~- ]", "[xb-a]", "[\\--\\-]", "[\\--+]")

    def test_parts(self):
        self.reads("ab", row(A, B))
        self.reads("a" * 8, row(*[A] * 8))
        self.refuses("a" * 9, "(" + "a" * 9 + ")", "<:" + "a" * 9 + ">{0,1}")
        self.reads("a|b", either(A, B))
        self.reads("|".join("a" * 8), either(*[A] * 8))
        self.reads("|" * 7, either(*[EMPTY] * 8))
        self.refuses("|".join("a" * 9), "|" * 8, "(" + "|" * 8 + ")")

    def test_low_and_high_of_times(self):
        for mark, how in [("", "much"), ("?", "little"), ("!", "keep")]:
            for low in range(10):
                self.reads("a{" + str(low) + "," + mark + "}", times(low, None, A, how))
                self.refuses("a{" + str(low) + ",0" + mark + "}", "a{" + str(low) + ",10" + mark + "}")
                for high in range(1, 10):
                    text = "a{" + str(low) + "," + str(high) + mark + "}"
                    if low <= high:
                        self.reads(text, times(low, high, A, how))
                    else:
                        self.refuses(text)
            self.refuses("a{10," + mark + "}", "a{10,10" + mark + "}", "a{10,11" + mark + "}")

    def test_groups(self):
        self.reads("(((((((a)))))))", nested(7, A))
        self.reads("()" * 8, row(*[("group", number, EMPTY) for number in range(1, 9)]))
        self.reads("(())" + "()" * 7, row(
            ("group", 1, ("group", 2, EMPTY)), *[("group", number, EMPTY) for number in range(3, 10)]))
        self.refuses("(())(())" + "()" * 6, "((()))" + "()" * 7, "()" * 8 + "|()()")

    def test_number_of_again_and_have(self):
        nine = "(())" + "()" * 6
        for number in range(1, 9):
            read_pattern(nine + "&" + str(number))
            read_pattern(nine + "<" + str(number) + "~>")
        for text in ["&9", "&0", "<9~>", "<0~>", "&", "&a", "<~>", "<a~>"]:
            self.refuses(nine + text)
        self.refuses("&1", "<1a~b>", "(a)&2", "&2(a)", "(a)<2b~c>", "(a&2)", "&1\\(a\\)", "[(a)]&1")
        self.reads("&1(a)", row(("again", 1), ("group", 1, A)))
        self.reads("(&1)", ("group", 1, ("again", 1)))
        self.reads("<1(a)~b>", ("have", 1, ("group", 1, A), B))
        self.reads("<1a~(b)>", ("have", 1, A, ("group", 1, B)))
        self.reads("<2(a)~(b)>", ("have", 2, ("group", 1, A), ("group", 2, B)))
        self.reads("</(a)>|&1", either(("notbehind", ("group", 1, A)), ("again", 1)))

    def test_how_many_patterns(self):
        rows = "abcdefgh|" * 6
        self.assertEqual(pattern_text(read_pattern(rows + "abcd")), rows + "abcd")
        self.refuses(rows + "abcde")
        # Here the last branch may have six patterns; its row of four signs has five.
        rest = "abcdefgh|" * 5 + "abcdefg|"
        self.reads_back(rest + "abcde")
        self.refuses(rest + "abcdef")
        for first, last in [("(", ")"), ("<!", ">"), ("<+", ">"), ("<-", ">"), ("<*", ">"), ("</", ">"),
                            ("<:", ">{0,1}")]:
            self.reads_back(rest + first + "abcd" + last)
            self.refuses(rest + first + "abcde" + last)
        rest = "(abcdefg)|" + "abcdefgh|" * 4 + "abcdefg|"
        self.reads_back(rest + "<1abc~>", rest + "<1~abc>")
        self.refuses(rest + "<1abcd~>", rest + "<1~abcd>")
        self.reads_back(rows + "abc{0,1}")
        self.refuses(rows + "abc{0,1}d", rows + "[a][b]cde", rows + "..^$a")

    def reads_back(self, *texts):
        for text in texts:
            self.assertEqual(pattern_text(read_pattern(text)), text)

    def test_how_deep(self):
        for first, last in [("(", ")"), ("<!", ">"), ("<+", ">"), ("<-", ">"), ("<*", ">"), ("</", ">"),
                            ("a|(", ")"), ("a(", ")"), ("<:b|", ">a")]:
            levels = 2 if first in ("a|(", "a(", "<:b|") else 1
            for inner, inner_deep in [("ab", 2), ("a|b", 2), ("a{0,1}", 2), ("<:a|b>c", 3), ("<:>{0,1}", 2)]:
                if first == "<:b|" and inner == "a|b":
                    continue
                around = (8 - inner_deep) // levels
                self.reads_back(first * around + inner + last * around)
                around += 1
                self.refuses(first * around + inner + last * around)
        self.reads("<:" * 6 + "a" + "{0,1}" + ">{0,1}" * 6, turned(7))
        self.refuses("<:" * 7 + "a" + "{0,1}" + ">{0,1}" * 7)
        self.reads("(((((((a)))))))", nested(7, A))
        self.reads("((((((()))))))", nested(7, EMPTY))
        self.refuses("((((((((a))))))))", "(((((((())))))))", "(((((((((a)))))))))")
        self.reads_back("(<1<1<1<1<1<1~a>~>~>~>~>~>)", "(<1~<1~<1~<1~<1~<1a~>>>>>>)")
        self.refuses("(<1<1<1<1<1<1<1~a>~>~>~>~>~>~>)", "(<1~<1~<1~<1~<1~<1~<1a~>>>>>>>)")

    def test_far_beyond(self):
        for first, last in [("(", ")"), ("<:", ">"), ("<!", ">"), ("<1", "~>"), ("<1~", ">"), ("a|(", ")"),
                            ("[", "]"), ("\\", ""), ("|", ""), ("a", ""), ("a{0,1}", ""), ("{", "}")]:
            self.refuses(first * 5000, first * 5000 + last * 5000, first * 5000 + "a" + last * 5000)


class WhatIsNotWritten(Reading):
    def test_brackets(self):
        self.refuses("(", ")", "(a", "a)", "((a)", "(a))", ")(", "[", "]", "[a", "a]", "[[a]", "[a]]", "[^", "[^a",
                     "<", ">", "<!", "<!a", "a>", "<!a>>", "<:ab{0,1}", "<:ab", "{", "}", "{0,1}", "a{", "a}", "a{0",
                     "a{0,", "a{0,1", "a{0,1?", "a{0,1!", "(a>", "<!a)", "(a]", "[a)", "(<!a)>", "<!(a>)", "(a|b",
                     "a|b)", "()<1a", "()<1a~", "()<1a~b", "()<1a>", "()<1a~b~c>", "()<1a~b)", "()<1", "()<")

    def test_marks(self):
        self.refuses("<a>", "<>", "<?a>", "<.a>", "<=a>", "<(a)>", "<:>", "< a>", "<^>", "<\\!a>", "~", "a~b", "(a~b)",
                     "<!a~b>", "()<1(a~b)>", "&", "a&", "&&", "()&-1", "()&+1", "()& 1")

    def test_strokes(self):
        self.refuses("\\", "a\\", "(\\", "[\\", "[a\\", "(\\)", "[\\]", "<!\\>", "()<1\\~>")
        stroked = "\\.[](){}<>|^$&~"
        for s in SIGNS:
            if s not in stroked:
                self.refuses("\\" + s, "a\\" + s, "(\\" + s + ")")
            if s not in "\\[]^-":
                self.refuses("[\\" + s + "]", "[^\\" + s + "]", "[ -\\" + s + "]", "[a\\" + s + "-~]")

    def test_signs_without_a_stroke(self):
        self.refuses("[", "]", "(", ")", "{", "}", "<", ">", "&", "~", "\\", "a]", "a}", "a{b", "a&b")
        self.refuses("[-]", "[a-]", "[-a]", "[a-b-c]", "[a--]", "[a-^]", "[a^]", "[^^]", "[[]", "[]]", "[a[]", "[a-]]",
                     "[a-[]", "[--a]")

    def test_bracket_where_none_is_written(self):
        self.refuses("<:a>", "<:ab>", "<:a|b>", "<:a{0,1}>", "<:>", "<:a>b", "<:ab>c", "a<:bc>", "<:>a", "<:a{0,1}>b",
                     "<:a|b>|c", "c|<:a|b>", "(<:a|b>)", "<!<:a|b>>", "<+<:ab>>", "()<1<:a|b>~>", "()<1~<:ab>>",
                     "<:a>{0,1}", "<:.>{0,1}", "<:[a]>{0,1}", "<:(a)>{0,1}", "<:<!a>>{0,1}", "()<:&1>{0,1}",
                     "<:<:ab>>{0,1}", "<:<:a|b>>{0,1}", "<:<:a|b>>c", "<:<:>>{0,1}", "<:<:a|b>{0,1}>c", "<:^>{0,1}")

    def test_times(self):
        self.refuses("a{0,1}{0,1}", "a{0,}{0,}", "a{}", "a{,}", "a{1}", "a{,1}", "a{0;1}", "a{0,1,}", "a{ 0,1}",
                     "a{0, 1}", "a{00,1}", "a{0,01}", "a{0,1*}", "a{0,1?!}", "a{0,1!?}", "a{0,1??}", "a{0?,1}",
                     "a{?0,1}", "a{-1,1}", "a{+0,1}", "a{0,1}}", "a{{0,1}", "|{0,1}", "({0,1})", "a|{0,1}", "a{a,b}",
                     "<!{0,1}>")

    def test_signs_outside(self):
        for s in ["%", "\n", "\t", "\r", "\0", "\x7f", "\x1f", "\x80", "\xe9", "\u0663", "\u2212", "\ud800", "\U0001f600"]:
            self.refuses(s, "a" + s, s + "a", "\\" + s, "[" + s + "]", "[ -" + s + "]", "[^" + s + "-~]", "(" + s + ")",
                         "a{0,1" + s + "}", "<" + s + ">")
        for digit in ["\u0661", "\u00b2", "\uff11"]:
            self.refuses("(a)&" + digit, "(a)<" + digit + "b~c>", "a{" + digit + ",}", "a{0," + digit + "}")
        self.refuses("a\n", "\na", "ab\n")

    def test_one_sign_changed(self):
        # Whatever is still read after one sign is left out or put in is what is written of the answer.
        for pattern in mixed(60):
            text = pattern_text(pattern)
            for place in range(len(text) + 1):
                changed = [text[:place] + text[place + 1:]]
                changed += [text[:place] + s + text[place:] for s in "a\\(|>{1-"]
                for other in changed:
                    try:
                        answer = read_pattern(other)
                    except Unread:
                        continue
                    self.assertEqual(pattern_text(answer), other)


class EveryShortText(Reading):
    """All short texts of some tokens, against all patterns that are written with so many of them."""

    def test_patterns(self):
        written = short_patterns(5)
        self.assertGreater(len(written), 500)
        for size in range(6):
            for tokens in itertools.product(TOKENS, repeat=size):
                text = "".join(tokens)
                self.assertEqual(self.answer(text), written.get(text), text)

    def test_runs(self):
        forms = {"a": "a", "b": "b", "^": "\\^", "-": "\\-", "\\": "\\\\"}
        units = [((s, s), form) for s, form in forms.items()]
        units += [((s, t), forms[s] + "-" + forms[t]) for s in forms for t in forms if s < t]
        written = {}
        for size in range(1, 6):
            for chosen in itertools.product(units, repeat=size):
                body = "".join(form for _, form in chosen)
                if len(body) <= 5:
                    runs = tuple(run for run, _ in chosen)
                    written["[" + body + "]"] = ("in", runs)
                    written["[^" + body + "]"] = ("out", runs)
        for size in range(6):
            for body in itertools.product("ab^-\\", repeat=size):
                text = "[" + "".join(body) + "]"
                self.assertEqual(self.answer(text), written.get(text), text)

    def answer(self, text):
        try:
            return read_pattern(text)
        except Unread:
            return None


def nested(how_many, part):
    for number in range(how_many, 0, -1):
        part = ("group", number, part)
    return part


def turned(how_many):
    pattern = A
    for _ in range(how_many):
        pattern = times(0, 1, pattern)
    return pattern


def short_patterns(most):
    """The patterns that are written with at most so many tokens, by their texts, made by the document's rows."""
    kinds = {name: {} for name in ["single", "times", "row", "or"]}

    def of(names, size):
        return [pair for name in names for pair in kinds[name].get(size, [])]

    def rows_of(size, least):
        """Lists of at least so many parts of a row that have so many tokens together."""
        found = [([], "")] if size == 0 and least <= 0 else []
        for first_size in range(1, size + 1):
            for rest, rest_text in rows_of(size - first_size, least - 1):
                for first, text in items(first_size):
                    found.append(([first] + rest, text + rest_text))
        return found

    def items(size):
        return of(["single", "times"], size) + [(p, "<:" + t + ">") for p, t in of(["or"], size - 2)]

    def ors_of(size, least):
        branch = ["single", "times", "row"]
        found = [([p], t) for p, t in of(branch, size)] if least <= 1 else []
        for first_size in range(size):
            for rest, rest_text in ors_of(size - first_size - 1, least - 1):
                found += [([p] + rest, t + "|" + rest_text) for p, t in of(branch, first_size)]
        return found

    every = ["single", "times", "row", "or"]
    for size in range(most + 1):
        single = [(A, "a"), (("again", 1), "&1")] if size == 1 else []
        single += [(("group", 0, p), "(" + t + ")") for p, t in of(every, size - 2)]
        single += [(("once", p), "<!" + t + ">") for p, t in of(every, size - 2)]
        for yes_size in range(size - 2):
            single += [(("have", 1, p, q), "<1" + t + "~" + u + ">")
                       for p, t in of(every, yes_size) for q, u in of(every, size - 3 - yes_size)]
        kinds["single"][size] = single
        turns = [(times(0, None, p), t + "{0,}") for p, t in of(["single"], size - 1)]
        turns += [(times(0, None, p), "<:" + t + ">{0,}") for p, t in of(["row", "or", "times"], size - 3)]
        kinds["times"][size] = turns
        kinds["row"][size] = [(("row", tuple(ps)), t) for ps, t in rows_of(size, 2)]
        if size == 0:
            kinds["row"][0] = [(EMPTY, "")]
        kinds["or"][size] = [(("or", tuple(ps)), t) for ps, t in ors_of(size, 2)]
    written = {}
    for size in range(most + 1):
        for pattern, text in of(every, size):
            numbered, groups = renumbered(pattern, 0)
            if groups > 0 or "1" not in text:
                written[text] = numbered
    return written


def renumbered(pattern, groups):
    """The pattern with its groups numbered in their order, behind so many others, and how many there are then."""
    if pattern[:1] == ("group",):
        groups += 1
        pattern = ("group", groups) + pattern[2:]
    items = []
    for item in pattern:
        if isinstance(item, tuple):
            item, groups = renumbered(item, groups)
        items.append(item)
    return tuple(items), groups


if __name__ == "__main__":
    unittest.main()
