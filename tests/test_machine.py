import unittest

from plain import all_ways, count_groups, machine_answers, ways
from samples import A, B, SmallMixer, mixed, row, texts_up_to, times
from seek.codes import coded
from seek.machine import Machine
from seek.texts import read_pattern

FOUND = ("found",)
MANY = 100000


def told(machine, most=MANY):
    """All answers of a machine up to none, each with the moves behind it."""
    answers = []
    while not answers or answers[-1][0] != ("none",):
        answers.append((machine.way(most), machine.moves()))
    return answers


class Rows(unittest.TestCase):
    """Each kind of row by itself, with the moves behind each answer."""

    def check(self, rows, text, at, *answers):
        rows = tuple(rows)
        self.assertEqual(told(Machine(rows, text, at)), list(answers))
        self.assertEqual(list(machine_answers(rows, text, at)), list(answers))

    def one_way(self, rows, text, at, end, groups, moves):
        self.check(rows, text, at, (("way", end, groups), moves), (("none",), moves))

    def no_way(self, rows, text, at, moves):
        self.check(rows, text, at, (("none",), moves))

    def test_found(self):
        self.one_way([FOUND], "", 0, 0, (), 1)
        self.one_way([FOUND], "abc", 2, 2, (), 1)

    def test_sign(self):
        self.one_way([A, FOUND], "ba", 1, 2, (), 2)
        for text, at in [("ba", 0), ("ba", 2), ("", 0), ("A", 0)]:
            self.no_way([A, FOUND], text, at, 1)

    def test_any(self):
        for at in range(3):
            self.one_way([("any",), FOUND], "a ~", at, at + 1, (), 2)
        self.no_way([("any",), FOUND], "a ~", 3, 1)

    def test_in_and_out(self):
        inside = ("in", (("b", "d"), ("x", "x")))
        outside = ("out", (("b", "d"), ("x", "x")))
        for s, taken in [("a", False), ("b", True), ("c", True), ("d", True), ("e", False), ("w", False), ("x", True),
                         ("y", False), ("B", False), (" ", False), ("~", False)]:
            for pattern, wanted in [(inside, taken), (outside, not taken)]:
                if wanted:
                    self.one_way([pattern, FOUND], s, 0, 1, (), 2)
                else:
                    self.no_way([pattern, FOUND], s, 0, 1)
        self.no_way([inside, FOUND], "b", 1, 1)
        self.no_way([outside, FOUND], "b", 1, 1)
        self.one_way([("in", ((" ", "~"),)), FOUND], "\\", 0, 1, (), 2)
        self.one_way([("in", (("a", "a"), ("b", "b"), ("c", "h"))), FOUND], "h", 0, 1, (), 2)

    def test_begin_and_end(self):
        for at in range(4):
            for pattern, place in [(("begin",), 0), (("end",), 3)]:
                if at == place:
                    self.one_way([pattern, FOUND], "aaa", at, at, (), 2)
                else:
                    self.no_way([pattern, FOUND], "aaa", at, 1)
        self.one_way([("begin",), ("end",), FOUND], "", 0, 0, (), 3)

    def test_again(self):
        rows = [("open",), ("any",), ("any",), ("close", 1), ("again", 1), FOUND]
        self.one_way(rows, "abab", 0, 4, ((0, 2),), 6)
        self.no_way(rows, "abaa", 0, 5)
        self.no_way(rows, "aba", 0, 5)
        self.no_way([("again", 1), ("open",), ("close", 1), FOUND], "aa", 0, 1)
        self.one_way([("open",), ("close", 1), ("again", 1), FOUND], "a", 1, 1, ((1, 1),), 4)

    def test_try_and_go(self):
        self.check([("try", 3), A, ("go", 4), ("any",), FOUND], "a", 0,
                   (("way", 1, ()), 4), (("way", 1, ()), 6), (("none",), 6))
        self.check([("try", 3), A, ("go", 4), ("any",), FOUND], "b", 0, (("way", 1, ()), 4), (("none",), 4))
        self.check([("try", 3), A, ("go", 4), ("any",), FOUND], "", 0, (("none",), 3))
        # The choice that was kept last is gone back to first.
        self.check([("try", 6), ("try", 4), A, ("go", 7), B, ("go", 7), ("end",), FOUND], "a", 0,
                   (("way", 1, ()), 5), (("none",), 7))

    def test_open_and_close(self):
        self.one_way([("open",), A, ("close", 1), FOUND], "ba", 1, 2, ((1, 2),), 4)
        self.one_way([("open",), A, ("open",), ("any",), ("close", 2), ("close", 1), FOUND], "ab", 0, 2,
                     ((0, 2), (1, 2)), 7)
        self.check([("try", 5), ("open",), A, ("close", 1), ("go", 5), FOUND], "a", 0,
                   (("way", 1, ((0, 1),)), 6), (("way", 0, (None,)), 7), (("none",), 7))

    def test_turns_turn_and_next(self):
        def rows(low, high, how):
            return [("turns",), ("turn", low, high, how, 4), A, ("next", low, 1), FOUND]
        self.check(rows(0, 1, "much"), "aa", 0, (("way", 1, ()), 6), (("way", 0, ()), 7), (("none",), 7))
        self.check(rows(0, 1, "little"), "aa", 0, (("way", 0, ()), 3), (("way", 1, ()), 7), (("none",), 7))
        self.check(rows(0, None, "much"), "aa", 0,
                   (("way", 2, ()), 10), (("way", 1, ()), 11), (("way", 0, ()), 12), (("none",), 12))
        self.check(rows(0, None, "little"), "aa", 0,
                   (("way", 0, ()), 3), (("way", 1, ()), 7), (("way", 2, ()), 11), (("none",), 12))
        self.check(rows(1, None, "much"), "a", 0, (("way", 1, ()), 7), (("none",), 7))
        self.check(rows(2, 2, "much"), "aaa", 0, (("way", 2, ()), 9), (("none",), 9))
        self.check(rows(2, 2, "little"), "aaa", 0, (("way", 2, ()), 9), (("none",), 9))
        self.check(rows(2, None, "much"), "a", 0, (("none",), 6))

    def test_next_behind_a_turn_that_took_nothing(self):
        def rows(low, high):
            return [("turns",), ("turn", low, high, "much", 3), ("next", low, 1), FOUND]
        self.check(rows(0, None), "", 0, (("way", 0, ()), 4), (("none",), 4))
        self.check(rows(2, None), "a", 1, (("way", 1, ()), 8), (("none",), 8))
        self.check(rows(2, 2), "a", 0, (("way", 0, ()), 7), (("none",), 7))

    def test_have(self):
        rows = [("have", 1, 3), A, ("go", 4), B, FOUND]
        self.one_way([("open",), ("close", 1)] + moved(rows, 2), "ab", 0, 1, ((0, 0),), 6)
        self.no_way([("open",), ("close", 1)] + moved(rows, 2), "b", 0, 4)
        self.one_way([("have", 1, 3), A, ("go", 4), B, ("open",), ("close", 1), FOUND], "b", 0, 1, ((1, 1),), 5)
        self.no_way([("have", 1, 3), A, ("go", 4), B, ("open",), ("close", 1), FOUND], "a", 0, 2)

    def test_once_and_kept(self):
        branches = [("try", 4), A, ("go", 5), ("any",)]
        self.one_way([("once",)] + branches + [("kept",), FOUND], "a", 0, 1, (), 6)
        self.one_way([("once",)] + branches + [("kept",), FOUND], "b", 0, 1, (), 6)
        # A choice that was kept ahead of the once stays.
        self.check([("try", 7), ("once",), ("try", 5), A, ("go", 6), ("any",), ("kept",), FOUND], "a", 0,
                   (("way", 1, ()), 7), (("way", 0, ()), 8), (("none",), 8))

    def test_once_and_peeked(self):
        self.one_way([("once",), ("try", 4), A, ("go", 5), ("any",), ("peeked",), FOUND], "a", 0, 0, (), 6)
        self.no_way([("once",), A, ("peeked",), FOUND], "b", 0, 2)
        self.one_way([("once",), ("open",), A, ("close", 1), ("peeked",), FOUND], "ba", 1, 1, ((1, 2),), 6)

    def test_bar_and_barred(self):
        self.no_way([("bar", 3), A, ("barred",), FOUND], "a", 0, 3)
        self.one_way([("bar", 3), A, ("barred",), FOUND], "b", 0, 0, (), 3)
        self.one_way([("bar", 5), ("open",), A, ("close", 1), B, ("any",), FOUND], "ac", 0, 1, (None,), 7)
        self.check([("try", 4), ("bar", 4), A, ("barred",), FOUND], "a", 0, (("way", 0, ()), 5), (("none",), 5))

    def test_lean_and_here(self):
        rows = [("once",), ("lean",), A, ("here",), ("peeked",), FOUND]
        self.one_way(rows, "ab", 1, 1, (), 8)
        self.no_way(rows, "ab", 2, 8)
        self.no_way(rows, "ab", 0, 4)
        barred = [("bar", 5), ("lean",), A, ("here",), ("barred",), FOUND]
        self.no_way(barred, "ab", 1, 7)
        self.one_way(barred, "ab", 2, 2, (), 9)
        self.one_way(barred, "ab", 0, 0, (), 5)


def moved(rows, by):
    """Rows of a have and its go, with their places so much farther on."""
    places = {"have": 2, "go": 1}
    answer = []
    for item in rows:
        if item[0] in places:
            at = places[item[0]]
            item = item[:at] + (item[at] + by,) + item[at + 1:]
        answer.append(item)
    return answer


class Ways(unittest.TestCase):
    """The ways of each kind of pattern, in their order."""

    def check(self, written, text, at, *expected):
        """expected: an end for each way of a pattern without groups, else (end, entry of group 1, ..)."""
        pattern = read_pattern(written)
        expected = [(item,) if isinstance(item, int) else item for item in expected]
        expected = [("way", item[0], item[1:]) for item in expected] + [("none",)]
        answers = [answer for answer, _ in told(Machine(coded(pattern), text, at))]
        self.assertEqual(answers, expected, (written, text, at))
        plain = [("way", end, groups) for end, groups in all_ways(pattern, text, at)] + [("none",)]
        self.assertEqual(plain, expected, (written, text, at))
        for answer in answers:
            self.assertIs(type(answer), tuple)

    def test_one_sign(self):
        self.check("a", "ba", 1, 2)
        self.check("a", "ba", 0)
        self.check("a", "ba", 2)
        self.check(".", "ba", 0, 1)
        self.check(".", "", 0)
        self.check("[a-cx]", "x", 0, 1)
        self.check("[a-cx]", "d", 0)
        self.check("[^a-cx]", "d", 0, 1)
        self.check("[^a-cx]", "b", 0)
        self.check("[^a-cx]", "d", 1)

    def test_begin_and_end(self):
        for at in range(4):
            self.check("^", "aba", at, *([0] if at == 0 else []))
            self.check("$", "aba", at, *([3] if at == 3 else []))
        self.check("^$", "", 0, 0)
        self.check("a{0,}$", "aa", 0, 2)
        self.check("a{0,}^", "aa", 0, 0)

    def test_row(self):
        for at in range(3):
            self.check("", "ab", at, at)
        self.check("", "", 0, 0)
        self.check("ab", "ab", 0, 2)
        self.check("ab", "aa", 0)
        self.check("a{0,1}a{0,1}", "aa", 0, 2, 1, 1, 0)
        self.check("a{0,1?}a{0,1}", "aa", 0, 1, 0, 2, 1)
        self.check("<:a|ab><:bc|c|>", "abc", 0, 3, 1, 3, 2)

    def test_or(self):
        self.check("a|ab|", "ab", 0, 1, 2, 0)
        self.check("|ab|a", "ab", 0, 0, 2, 1)
        self.check("b|a|c", "a", 0, 1)
        self.check("a|a|a|a|a|a|a|a", "a", 0, 1, 1, 1, 1, 1, 1, 1, 1)
        self.check("a|b", "c", 0)

    def test_times(self):
        self.check("a{0,}", "aaa", 0, 3, 2, 1, 0)
        self.check("a{0,?}", "aaa", 0, 0, 1, 2, 3)
        self.check("a{0,!}", "aaa", 0, 3)
        self.check("a{1,2}", "aaa", 0, 2, 1)
        self.check("a{1,2?}", "aaa", 0, 1, 2)
        self.check("a{1,2!}", "aaa", 0, 2)
        self.check("a{2,}", "aaa", 1, 3)
        self.check("a{2,}", "aaa", 2)
        self.check("a{2,?}", "aaa", 2)
        self.check("a{2,!}", "aaa", 2)
        self.check("a{9,9}", "a" * 10, 0, 9)
        self.check("a{9,}", "a" * 10, 0, 10, 9)
        self.check("a{8,9?}", "a" * 10, 0, 8, 9)
        self.check("a{0,9}", "a" * 10, 0, *range(9, -1, -1))
        self.check("a{0,!}a", "aaa", 0)
        self.check("<:a|ab>{0,}", "aba", 0, 1, 3, 2, 0)
        self.check("<:a|ab>{0,?}", "aba", 0, 0, 1, 2, 3)

    def test_times_whose_part_takes_nothing(self):
        self.check("<:a|>{0,}", "aa", 0, 2, 1, 0)
        self.check("<:|a>{0,}", "aa", 0, 2, 1, 0)
        self.check("<:|a>{0,?}", "aa", 0, 0, 1, 2)
        self.check("<:a|>{2,2}", "aa", 0, 2, 1, 1, 0)
        self.check("<:|a>{2,2}", "aa", 0, 0, 1, 1, 2)
        self.check("<:|a>{1,}", "a", 0, 1, 0, 1)
        self.check("<:|a>{1,?}", "a", 0, 0, 1, 1)
        self.check("<:>{0,}", "a", 0, 0)
        self.check("<:>{3,}", "a", 0, 0)
        self.check("<:>{3,9!}", "a", 1, 1)
        self.check("<:>{9,9?}", "", 0, 0)
        self.check("(){0,}", "a", 0, (0, None))
        self.check("(){1,}", "a", 0, (0, (0, 0)))
        self.check("(a|){1,}", "a", 0, (1, (0, 1)), (1, (0, 1)), (0, (0, 0)))
        self.check("(a|){0,}", "a", 0, (1, (0, 1)), (0, None))
        self.check("<:a{0,}>{0,}", "aa", 0, 2, 2, 1, 0)

    def test_group(self):
        self.check("(a|ab)", "ab", 0, (1, (0, 1)), (2, (0, 2)))
        self.check("(a)(b)", "ab", 0, (2, (0, 1), (1, 2)))
        self.check("(a)|(b)", "b", 0, (1, None, (0, 1)))
        self.check("((a){0,1}b)", "b", 0, (1, (0, 1), None))
        self.check("(a|b){0,}", "ab", 0, (2, (1, 2)), (1, (0, 1)), (0, None))
        self.check("(a|b){0,?}", "ab", 0, (0, None), (1, (0, 1)), (2, (1, 2)))
        self.check("<:(a)|(b)>{0,}", "ab", 0, (2, (0, 1), (1, 2)), (1, (0, 1), None), (0, None, None))
        self.check("()", "ab", 1, (1, (1, 1)))

    def test_again(self):
        self.check("(a|ab)&1", "abab", 0, (4, (0, 2)))
        self.check("(a{0,})&1", "aaa", 0, (2, (0, 1)), (0, (0, 0)))
        self.check("&1(a)", "aa", 0)
        self.check("(&1a)", "aa", 0)
        self.check("(a){0,1}&1", "aa", 0, (2, (0, 1)))
        self.check("(a|&1b){2,2}", "aab", 0, (2, (1, 2)), (3, (1, 3)))
        self.check("<:&1b|(a)>{0,}", "aab", 0, (3, (0, 1)), (2, (1, 2)), (1, (0, 1)), (0, None))
        self.check("<+(ab)>a&1", "aab", 0)
        self.check("a<+(b)>.&1", "abb", 0, (3, (1, 2)))

    def test_have(self):
        self.check("(a){0,1}<1b~c>", "ab", 0, (2, (0, 1)))
        self.check("(a){0,1}<1b~c>", "c", 0, (1, None))
        self.check("(a){0,1}<1b~c>", "ac", 0)
        self.check("(a){0,1}<1|.~|.>", "ab", 0, (1, (0, 1)), (2, (0, 1)), (0, None), (1, None))
        self.check("<1a~b>(b)", "bb", 0, (2, (1, 2)))
        self.check("<:<1b~a>()>{2,2}", "ab", 0, (2, (2, 2)))
        self.check("<:<1b~a>(){0,1}>{2,2}", "ab", 0)
        self.check("<1&1~(a)>", "a", 0, (1, (0, 1)))
        self.check("<1&1b~(a)>{2,2}", "aab", 0, (3, (0, 1)))

    def test_once(self):
        self.check("<!a|ab>", "ab", 0, 1)
        self.check("<!a|ab>b{0,}", "abb", 0, 3, 2, 1)
        self.check("<!a|ab>c", "abc", 0)
        self.check("<!b|a>", "a", 0, 1)
        self.check("<!b>", "a", 0)
        self.check("<!(a{0,?})>", "aa", 0, (0, (0, 0)))
        self.check("a{0,}<!a{0,}>", "aa", 0, 2, 2, 2)
        self.check("<!<!a|ab>|ab>c|a", "abc", 0, 1)
        self.check("<!a{0,1}<!a{0,1?}>>", "aa", 0, 1)

    def test_keep(self):
        self.check("<:a|ab>{0,!}", "ab", 0, 1)
        self.check("<:a|ab>{0,!}b", "ab", 0, 2)
        self.check("a{0,}a{0,1!}", "aa", 0, 2, 2, 1)
        self.check("(a|b){1,!}", "ab", 0, (2, (1, 2)))
        self.check("(a){0,!}b", "aab", 0, (3, (1, 2)))

    def test_looks_ahead(self):
        self.check("<+(a|ab)>", "ab", 0, (0, (0, 1)))
        self.check("<+(a|ab)b>", "ab", 0, (0, (0, 1)))
        self.check("<+(a|ab)$>", "ab", 0, (0, (0, 2)))
        self.check("<+(a)>", "ba", 0)
        self.check("<+(a)>", "bab", 1, (1, (1, 2)))
        self.check("<+(a)>", "ba", 2)
        self.check("<+(a{0,})>", "ba", 2, (2, (2, 2)))
        self.check("<-(a)>", "ab", 0)
        self.check("<-(a)>", "ab", 1, (1, None))
        self.check("<-(a)>", "ab", 2, (2, None))
        self.check("<-(a)b>", "aab", 0, (0, None))
        self.check("(a)<-(.)b>", "aab", 0)
        self.check("(.)<-(.)b>", "aaab", 0, (1, (0, 1), None))
        self.check("<-<-(a)>>", "a", 0, (0, None))
        self.check("<+>", "", 0, 0)
        self.check("<->", "", 0)
        self.check("(a){0,1}<+(b){0,1}>", "ab", 0, (1, (0, 1), (1, 2)), (0, None, None))

    def test_looks_behind(self):
        for at, expected in [(0, []), (1, [(1, (0, 1))]), (2, []), (3, [(3, (2, 3))])]:
            self.check("<*(a)>", "aba", at, *expected)
            self.check("</(a)>", "aba", at, *([] if expected else [(at, None)]))
        self.check("<*(a|ba)>", "ba", 2, (2, (1, 2)))
        self.check("<*(ba)|(a)>", "ba", 2, (2, None, (1, 2)))
        self.check("<*(ba|b)(a){0,1}>", "ba", 2, (2, (0, 2), None))
        self.check("<*(.{0,})>", "ab", 2, (2, (2, 2)))
        self.check("<*(.{1,})>", "ab", 2, (2, (1, 2)))
        self.check("<*(.{2,})>", "abc", 2, (2, (0, 2)))
        self.check("<*(.{3,})>", "abc", 2)
        self.check("<*^(.{0,})>", "abc", 2, (2, (0, 2)))
        self.check("<*a(b)|a(b)c>", "abc", 3, (3, None, (1, 2)))
        self.check("<*((a|aa)(a|aa))>", "aaa", 3, (3, (1, 3), (1, 2), (2, 3)))
        self.check("a{0,}<*aa>", "aaa", 0, 3, 2)
        self.check("a{0,}</aa>", "aaa", 0, 1, 0)
        self.check("</(ab)>", "ab", 2)
        self.check("</(ab)>", "abc", 3, (3, None))
        self.check("<*>", "", 0, 0)
        self.check("</>", "", 0)
        self.check("<*$>", "ab", 2, 2)
        self.check("<*ab$>", "ab", 1)
        self.check("<*<+b>.>c", "abc", 2, 3)
        self.check("<*(a)<+(b)>>", "ab", 1, (1, (0, 1), (1, 2)))
        self.check("(a)<*&1>", "aa", 0, (1, (0, 1)))

    def test_empty_text(self):
        for written, expected in [("a", []), (".", []), ("[^a]", []), ("^", [0]), ("$", [0]), ("", [0]), ("a|", [0]),
                                  ("a{0,}", [0]), ("a{0,?}", [0]), ("a{0,!}", [0]), ("a{1,}", []), ("<!a>", []),
                                  ("<-a>", [0]), ("</a>", [0]), ("<+a>", []), ("<*a>", []), ("()&1", [(0, (0, 0))]),
                                  ("()<1~a>", [(0, (0, 0))]), ("<1a~>(){0,1}", [(0, None)])]:
            self.check(written, "", 0, *expected)

    def test_somewhat_beyond_the_bounds(self):
        for pattern, text, expected in [
            (row(*[A] * 12), "a" * 12, [12]), (("or", (A,) * 12), "a", [1] * 12),
            (times(12, 15, A), "a" * 20, [15, 14, 13, 12]), (("in", (("b", "b"),) * 9 + (("a", "a"),)), "a", [1]),
            (times(0, None, A), "a" * 300, list(range(300, -1, -1))),
        ]:
            answers = [answer for answer, _ in told(Machine(coded(pattern), text, 0))]
            self.assertEqual(answers, [("way", end, ()) for end in expected] + [("none",)])
        groups = row(*[("group", number, A) for number in range(1, 13)], ("again", 12))
        machine = Machine(coded(groups), "a" * 13, 0)
        self.assertEqual(machine.way(MANY), ("way", 13, tuple((place, place + 1) for place in range(12))))
        deep = A
        for number in range(40, 0, -1):
            deep = ("group", number, deep)
        self.assertEqual(Machine(coded(deep), "a", 0).way(MANY), ("way", 1, ((0, 1),) * 40))


class Asking(unittest.TestCase):
    def machine(self, written, text, at=0):
        return Machine(coded(read_pattern(written)), text, at)

    def test_none_behind_the_last_way_and_always(self):
        machine = self.machine("a{0,1}", "a")
        self.assertEqual([machine.way(9) for _ in range(6)], [("way", 1, ()), ("way", 0, ())] + [("none",)] * 4)
        self.assertEqual(machine.moves(), 7)
        self.assertEqual(machine.way(1), ("none",))
        self.assertEqual(machine.moves(), 7)
        machine = self.machine("a", "b")
        self.assertEqual([machine.way(1) for _ in range(3)], [("none",)] * 3)
        self.assertEqual(machine.moves(), 1)

    def test_no_moves_ahead_of_asking(self):
        self.assertEqual(self.machine("a", "a").moves(), 0)
        self.assertIs(type(self.machine("a", "a").moves()), int)

    def test_over_just_where_neither_came(self):
        # Six moves to the first way of this, one more to the second.
        for most, answer, moves in [(1, ("over",), 1), (5, ("over",), 5), (6, ("way", 1, ()), 6), (7, ("way", 1, ()), 6)]:
            machine = self.machine("a{0,1}", "a")
            self.assertEqual((machine.way(most), machine.moves()), (answer, moves))
        machine = self.machine("a{0,1}", "a")
        answers = [(machine.way(2), machine.moves()) for _ in range(6)]
        self.assertEqual(answers, [(("over",), 2), (("over",), 4), (("way", 1, ()), 6), (("way", 0, ()), 7),
                                   (("none",), 7), (("none",), 7)])
        # The last move tells that there are no more ways: none, not over.
        machine = self.machine("aab", "aaa")
        self.assertEqual([machine.way(1) for _ in range(3)], [("over",), ("over",), ("none",)])
        self.assertEqual(self.machine("aab", "aaa").way(3), ("none",))
        self.assertEqual(self.machine("aab", "aaa").way(2), ("over",))

    def test_going_back_from_a_way_is_no_move(self):
        machine = self.machine("|", "")
        self.assertEqual([(machine.way(3), machine.moves()) for _ in range(3)],
                         [(("way", 0, ()), 3), (("way", 0, ()), 4), (("none",), 4)])
        machine = self.machine("|", "")
        self.assertEqual([(machine.way(1), machine.moves()) for _ in range(5)],
                         [(("over",), 1), (("over",), 2), (("way", 0, ()), 3), (("way", 0, ()), 4), (("none",), 4)])

    def test_a_few_at_a_time(self):
        for written, text in [("(a|ab)(b|){0,}", "abb"), ("<:(a){0,2?}|b>{1,}", "aab"), ("<-(a)b>.{0,}<*b>", "abab"),
                              ("(a{0,})<1&1~b>", "aaaa"), ("<:a{0,!}|b>{0,}", "aabaab"), ("</a>", "ab")]:
            pattern = read_pattern(written)
            at_once = told(Machine(coded(pattern), text, 0))
            for most in range(1, 8):
                self.check_by(coded(pattern), text, 0, most, at_once)

    def check_by(self, rows, text, at, most, at_once):
        """Asked by so many moves at a time, a machine has to tell what it tells at once."""
        machine = Machine(rows, text, at)
        answers = []
        while not answers or answers[-1][0] != ("none",):
            before = machine.moves()
            answer = machine.way(most)
            if answer == ("over",):
                self.assertEqual(machine.moves(), before + most)
            else:
                self.assertLessEqual(machine.moves(), before + most)
                answers.append((answer, machine.moves()))
        self.assertEqual(answers, at_once)

    def test_two_machines_in_turn(self):
        rows = coded(read_pattern("(a|b){0,}<1|a~b>"))
        for one_text, other_text in [("abab", "abab"), ("abab", "bb"), ("", "aaa")]:
            alone = [told(Machine(rows, text, 0)) for text in (one_text, other_text)]
            machines = [Machine(rows, one_text, 0), Machine(rows, other_text, 0)]
            answers = [[], []]
            for _ in range(1000):
                for machine, told_so_far in zip(machines, answers):
                    answer = machine.way(1)
                    if answer != ("over",) and (not told_so_far or told_so_far[-1][0] != ("none",)):
                        told_so_far.append((answer, machine.moves()))
            self.assertEqual(answers, alone)

    def test_at_each_place(self):
        rows = coded(read_pattern("a{0,}"))
        for at, ends in [(0, [2, 1, 0]), (1, [2, 1]), (2, [2]), (3, [4, 3]), (4, [4])]:
            answers = [answer for answer, _ in told(Machine(rows, "aaba", at))]
            self.assertEqual(answers, [("way", end, ()) for end in ends] + [("none",)])


class AgainstPlainWays(unittest.TestCase):
    """The ways of many patterns, against those of the document gone through plainly."""

    def test_ways(self):
        texts = texts_up_to(3) + ["abab", "aabb", "baaab", "bbabba"]
        several = 0
        for number, pattern in enumerate(mixed(3000, SmallMixer)):
            text = texts[number % len(texts)]
            for at in range(len(text) + 1):
                several += self.check(pattern, text, at) > 1
        self.assertGreater(several, 500)

    def check(self, pattern, text, at):
        """Compares up to 300 ways, and tells how many there were."""
        machine = Machine(coded(pattern), text, at)
        expected = ways(pattern, text, at, (None,) * count_groups(pattern))
        for number in range(300):
            answer = machine.way(3000)
            if answer == ("over",):
                return number
            way = next(expected, None)
            self.assertEqual(answer, ("none",) if way is None else ("way",) + way, (pattern, text, at))
            if way is None:
                return number
        return 300

    def test_moves(self):
        texts = texts_up_to(3) + ["abab", "aabb"]
        for number, pattern in enumerate(mixed(600, SmallMixer)):
            text = texts[number % len(texts)]
            for at in range(len(text) + 1):
                machine = Machine(coded(pattern), text, at)
                answer = None
                for answer, moves in machine_answers(coded(pattern), text, at):
                    if moves > 1500:
                        break
                    self.assertEqual(machine.way(MANY), answer, (pattern, text, at))
                    self.assertEqual(machine.moves(), moves, (pattern, text, at))

    def test_by_few_moves(self):
        for pattern in mixed(1000, SmallMixer):
            rows = coded(pattern)
            at_once = self.answers(rows, 200, 200)
            for most in [1, 2, 3, 7]:
                self.assertEqual(self.answers(rows, most, 200), at_once, pattern)

    def answers(self, rows, most, limit):
        """What a machine tells within a limit of moves, asked by so many at a time, and its moves behind each."""
        machine = Machine(rows, "abaab", 1)
        answers = []
        while machine.moves() < limit and (not answers or answers[-1][0] != ("none",)):
            before = machine.moves()
            asked = min(most, limit - before)
            answer = machine.way(asked)
            if answer == ("over",):
                self.assertEqual(machine.moves(), before + asked)
            else:
                answers.append((answer, machine.moves()))
        return answers + [machine.moves()]


if __name__ == "__main__":
    unittest.main()
