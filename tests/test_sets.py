import unittest

from plain import count_groups, first, ways
from samples import A, B, C, EMPTY, KINDS, PlainMixer, either, mixed, row, texts_up_to, times
from seek.codes import coded
from seek.errors import Memory, NoForm, Over, SeekError, Unread
from seek.machine import Machine
from seek.sets import first_by_sets
from seek.texts import read_pattern
from seek.trees import is_plain

LONG = "a" * 200


def first_way(pattern, text, at):
    """The first way that a machine tells, or None; and whether it came to that."""
    answer = Machine(coded(pattern), text, at).way(200000)
    return answer[1:] if answer[0] == "way" else None, answer[0] != "over"


class FirstBySets(unittest.TestCase):
    def check(self, written, text, at, expected):
        pattern = read_pattern(written)
        answer = first_by_sets(pattern, text, at)
        self.assertEqual(repr(answer), repr(expected), (written, text, at))
        self.assertEqual(answer, first(ways(pattern, text, at, (None,) * count_groups(pattern))))

    def test_one_sign(self):
        for written, text in [("a", "a"), (".", "~"), ("[a-cx]", "x"), ("[^a-cx]", "d")]:
            self.check(written, text, 0, (1, ()))
            self.check(written, "-" + text, 1, (2, ()))
            self.check(written, text, 1, None)
            self.check(written, "", 0, None)
        for written, text in [("a", "b"), ("[a-cx]", "d"), ("[^a-cx]", "c")]:
            self.check(written, text, 0, None)

    def test_begin_and_end(self):
        for at in range(3):
            self.check("^", "ab", at, (0, ()) if at == 0 else None)
            self.check("$", "ab", at, (2, ()) if at == 2 else None)
        self.check("^$", "", 0, (0, ()))
        self.check("a{0,?}$", "aaa", 1, (3, ()))
        self.check("a{0,}^", "aaa", 0, (0, ()))

    def test_row_and_or(self):
        self.check("", "ab", 1, (1, ()))
        self.check("ab", "ab", 0, (2, ()))
        self.check("ab", "aa", 0, None)
        self.check("a|ab", "ab", 0, (1, ()))
        self.check("ab|a", "ab", 0, (2, ()))
        self.check("|a", "a", 0, (0, ()))
        self.check("<:a|ab><:c|bcd>", "abcd", 0, (4, ()))
        self.check("(a|ab)(c|bcd)(d{0,})", "abcd", 0, (4, ((0, 1), (1, 4), (4, 4))))
        self.check("(a)|(b)|(c)", "b", 0, (1, (None, (0, 1), None)))

    def test_times(self):
        for written, end in [("a{0,}", 3), ("a{0,?}", 0), ("a{0,2}", 2), ("a{0,2?}", 0), ("a{1,?}", 1), ("a{2,?}", 2),
                             ("a{2,}", 3), ("a{3,3}", 3), ("a{3,9?}", 3)]:
            self.check(written, "aaa", 0, (end, ()))
        for written in ["a{4,}", "a{4,?}", "a{4,9}", "a{9,9}"]:
            self.check(written, "aaa", 0, None)
        self.check("a{0,2}b", "aaab", 0, None)
        self.check("a{0,3?}b", "aaab", 0, (4, ()))
        self.check("(a|b){0,}", "abc", 0, (2, ((1, 2),)))
        self.check("(a){0,}", "b", 0, (0, (None,)))
        self.check("<:(a)|(b)>{2,3?}", "abab", 0, (2, ((0, 1), (1, 2))))

    def test_turns_that_take_nothing(self):
        self.check("(){0,}", "a", 0, (0, (None,)))
        self.check("(){2,}", "a", 0, (0, ((0, 0),)))
        self.check("(a|){3,}", "a", 0, (1, ((1, 1),)))
        self.check("(|a){1,}", "a", 0, (1, ((0, 1),)))
        self.check("(|a){2,2}", "aa", 0, (0, ((0, 0),)))
        self.check("(|a){2,2}b", "ab", 0, (2, ((0, 1),)))
        self.check("(a{0,}){0,}", "aa", 0, (2, ((0, 2),)))
        self.check("(a{0,?}){1,?}", "aa", 0, (0, ((0, 0),)))
        self.check("(^|a){0,}", "aa", 0, (2, ((1, 2),)))
        self.check("<:(^|a)(b|$)>{1,}", "ab", 0, (2, ((0, 1), (1, 2))))

    def test_none_of_many_kinds(self):
        for written in ["a", "[b-c]", "b|c", "b{1,}", "(b)", "(b|c){1,9?}", "a^", "^b"]:
            self.check(written, "-", 0, None)

    def test_against_machines(self):
        texts = texts_up_to(3) + ["abab", "aabb", "baaab", "bbabba"]
        found = 0
        for number, pattern in enumerate(mixed(4000, PlainMixer)):
            text = texts[number % len(texts)]
            for at in range(len(text) + 1):
                expected, ended = first_way(pattern, text, at)
                if ended:
                    answer = first_by_sets(pattern, text, at)
                    self.assertEqual(repr(answer), repr(expected), (pattern, text, at))
                    found += answer is not None
        self.assertGreater(found, 3000)

    def test_short_patterns_against_machines(self):
        """Every times of a times of a part that may take nothing."""
        parts = ["a", "a|", "|a", "a|ab", "^|a", "(a)|(b)", "|a|b"]
        turns = ["{0,}", "{0,?}", "{1,}", "{2,?}", "{0,2}", "{1,2?}", "{2,2}"]
        for part in parts:
            for one in turns:
                for other in turns:
                    pattern = read_pattern("((" + part + ")" + one + ")" + other)
                    for text in ["", "a", "ab", "aab", "abab"]:
                        for pattern_behind in [pattern, row(pattern, ("end",))]:
                            expected, ended = first_way(pattern_behind, text, 0)
                            self.assertTrue(ended)
                            answer = first_by_sets(pattern_behind, text, 0)
                            self.assertEqual(answer, expected, (pattern_behind, text))

    def test_turns_of_turns_over_a_long_text(self):
        for written, groups in [
            ("(((a){0,}){0,}){0,}", ((0, 200), (0, 200), (199, 200))),
            ("(((a){1,}){1,}){1,}", ((0, 200), (0, 200), (199, 200))),
            ("(((a|){0,}){0,}){0,}", ((0, 200), (0, 200), (199, 200))),
            ("(((a){0,?}){0,?}){0,?}$", ((199, 200), (199, 200), (199, 200))),
            ("(((a){2,}){2,}){2,}", ((196, 200), (198, 200), (199, 200))),
            ("((a{0,9}){0,9}){0,9}", ((162, 200), (198, 200))),
        ]:
            self.assertEqual(first_by_sets(read_pattern(written), LONG, 0), (200, groups), written)

    def test_turns_of_turns_ahead_of_a_sign_that_isnt_there(self):
        for written, least in [
            ("(((a){0,}){0,}){0,}b", 0), ("(((a){1,}){1,}){1,}b", 1), ("((a|){0,}){0,}b", 0), ("(((a){0,?}){0,?}){0,?}b", 0),
            ("(((a){2,}){2,}){2,}b", 8), ("((a|aa){0,}){0,}b", 0), ("((a{0,9}){0,9}){0,9}b", 0), ("a{0,}" * 7 + "b", 0),
            ("<:<:<:<:<:a{0,}>{0,}>{0,}>{0,}>{0,}>{0,}b", 0), ("<:a|a|a|a|a|a|a|a>{0,}b", 0), ("<:<:a|>{9,}>{9,}b", 0),
        ]:
            pattern = read_pattern(written)
            self.assertIsNone(first_by_sets(pattern, LONG, 0), written)
            self.assertEqual(first_by_sets(pattern, LONG[1:] + "b", 0)[0], 200, written)
            for place in [199, 198, 192, 191]:
                answer = first_by_sets(pattern, LONG[1:] + "b", place)
                self.assertEqual(answer is not None, 199 - place >= least, written)

    def test_asked_again(self):
        pattern = read_pattern("(a|ab)(c|bcd)(d{0,})")
        for _ in range(3):
            self.assertEqual(first_by_sets(pattern, "abcd", 0), (4, ((0, 1), (1, 4), (4, 4))))
            self.assertIsNone(first_by_sets(pattern, "abd", 0))

    def test_somewhat_beyond_the_bounds(self):
        for pattern, text, expected in [
            (row(*[A] * 12), "a" * 12, (12, ())), (either(*[B] * 11, A), "a", (1, ())),
            (times(12, 15, A), "a" * 20, (15, ())), (times(12, 15, A, "little"), "a" * 20, (12, ())),
            (times(12, None, A), "a" * 11, None), (times(0, None, A), "a" * 300, (300, ())),
            (row(*[("group", number, A) for number in range(1, 13)]), "a" * 12,
             (12, tuple((place, place + 1) for place in range(12)))),
        ]:
            self.assertEqual(first_by_sets(pattern, text, 0), expected)
        deep = A
        for number in range(40, 0, -1):
            deep = ("group", number, deep)
        self.assertEqual(first_by_sets(deep, "a", 0), (1, ((0, 1),) * 40))


class NotPlain(unittest.TestCase):
    def refuses(self, pattern, text="a", at=0):
        for _ in range(2):
            with self.assertRaises(Memory) as caught:
                first_by_sets(pattern, text, at)
            self.assertIsInstance(caught.exception, SeekError)
            self.assertNotIsInstance(caught.exception, (Unread, NoForm, Over))

    def test_each_kind(self):
        group = ("group", 1, A)
        for pattern, written in KINDS:
            if is_plain(pattern):
                first_by_sets(pattern, "a", 0)
                continue
            self.refuses(row(group, pattern))
            # It is refused though another branch has a way ahead of it, and though it is never come to.
            self.refuses(either(group, row(B, pattern)))
            self.refuses(times(0, 1, row(C, either(group, pattern)), "little"))
            self.refuses(row(times(0, None, group), times(0, 1, pattern)), "", 0)
            self.refuses(("group", 1, times(0, 1, either(A, pattern))), "ab", 2)

    def test_keep_alone(self):
        self.refuses(times(0, None, A, "keep"))
        self.refuses(times(0, 1, EMPTY, "keep"))
        self.assertEqual(first_by_sets(times(0, None, A, "much"), "a", 0), (1, ()))


if __name__ == "__main__":
    unittest.main()
