import unittest

from samples import A, B, C, EMPTY, KINDS, either, mixed, row, sign, times
from seek.codes import coded

FOUND = ("found",)
WRAPS = {
    "once": ([("once",)], [("kept",)]), "ahead": ([("once",)], [("peeked",)]),
    "behind": ([("once",), ("lean",)], [("here",), ("peeked",)]), "notahead": (["bar"], [("barred",)]),
    "notbehind": (["bar", ("lean",)], [("here",), ("barred",)]),
}


def size(pattern):
    """How many rows a pattern has."""
    kind = pattern[0]
    if kind == "row":
        return sum(size(part) for part in pattern[1])
    if kind == "or":
        return sum(size(part) + 2 for part in pattern[1]) - 2
    if kind == "times":
        return size(pattern[4]) + (5 if pattern[3] == "keep" else 3)
    if kind == "group":
        return size(pattern[2]) + 2
    if kind == "have":
        return size(pattern[2]) + size(pattern[3]) + 2
    if kind in WRAPS:
        return size(pattern[1]) + sum(len(part) for part in WRAPS[kind])
    return 1


def rows_at(pattern, start):
    """The rows of a pattern whose first row has this place."""
    kind = pattern[0]
    behind = start + size(pattern)
    if kind == "row":
        rows = []
        for part in pattern[1]:
            rows += rows_at(part, start + len(rows))
        return rows
    if kind == "or":
        rows = []
        for part in pattern[1][:-1]:
            rows += [("try", start + len(rows) + size(part) + 2)] + rows_at(part, start + len(rows) + 1) + [("go", behind)]
        return rows + rows_at(pattern[1][-1], start + len(rows))
    if kind == "times":
        _, low, high, how, part = pattern
        if how == "keep":
            return [("once",)] + rows_at(("times", low, high, "much", part), start + 1) + [("kept",)]
        turn = ("turn", low, high, how, behind)
        return [("turns",), turn] + rows_at(part, start + 2) + [("next", low, start + 1)]
    if kind == "group":
        return [("open",)] + rows_at(pattern[2], start + 1) + [("close", pattern[1])]
    if kind == "have":
        no = start + size(pattern[2]) + 2
        asked = ("have", pattern[1], no)
        return [asked] + rows_at(pattern[2], start + 1) + [("go", behind)] + rows_at(pattern[3], no)
    if kind in WRAPS:
        first, last = WRAPS[kind]
        first = [("bar", behind) if item == "bar" else item for item in first]
        return first + rows_at(pattern[1], start + len(first)) + last
    return [pattern]


class Coded(unittest.TestCase):
    def check(self, pattern, *rows):
        answer = coded(pattern)
        # repr tells kinds apart that are equal, as 1 and True are.
        self.assertEqual(repr(answer), repr(rows + (FOUND,)), pattern)
        self.assertIs(type(answer), tuple)
        for item in answer:
            self.assertIs(type(item), tuple)

    def test_itself(self):
        for pattern in [A, sign("~"), ("any",), ("in", (("a", "c"), ("x", "x"))), ("out", (("0", "9"),)), ("begin",),
                        ("end",), ("again", 1)]:
            self.check(pattern, pattern)

    def test_row(self):
        self.check(EMPTY)
        self.check(row(A, B), A, B)
        self.check(row(A, ("begin",), ("again", 1), ("any",)), A, ("begin",), ("again", 1), ("any",))
        self.check(row(*[sign(s) for s in "abcdefgh"]), *[sign(s) for s in "abcdefgh"])

    def test_or(self):
        self.check(either(A, B), ("try", 3), A, ("go", 4), B)
        self.check(either(A, row(A, B), C), ("try", 3), A, ("go", 8), ("try", 7), A, B, ("go", 8), C)
        self.check(either(EMPTY, A), ("try", 2), ("go", 3), A)
        self.check(either(A, EMPTY), ("try", 3), A, ("go", 3))
        self.check(either(EMPTY, EMPTY), ("try", 2), ("go", 2))
        rows = []
        for place, s in zip(range(3, 24, 3), "abcdefg"):
            rows += [("try", place), sign(s), ("go", 22)]
        self.check(either(*[sign(s) for s in "abcdefgh"]), *rows, sign("h"))

    def test_times(self):
        for how in ["much", "little"]:
            for low, high in [(0, None), (0, 1), (2, None), (2, 5), (9, 9), (9, None)]:
                self.check(times(low, high, A, how), ("turns",), ("turn", low, high, how, 4), A, ("next", low, 1))
            self.check(times(1, 3, row(A, B), how), ("turns",), ("turn", 1, 3, how, 5), A, B, ("next", 1, 1))
            self.check(times(1, 3, EMPTY, how), ("turns",), ("turn", 1, 3, how, 3), ("next", 1, 1))

    def test_keep(self):
        for low, high in [(0, None), (0, 1), (3, None), (2, 5)]:
            self.check(times(low, high, A, "keep"), ("once",), ("turns",), ("turn", low, high, "much", 5), A,
                       ("next", low, 2), ("kept",))

    def test_group(self):
        self.check(("group", 1, A), ("open",), A, ("close", 1))
        self.check(("group", 1, EMPTY), ("open",), ("close", 1))
        self.check(("group", 1, row(A, ("group", 2, B))), ("open",), A, ("open",), B, ("close", 2), ("close", 1))
        self.check(row(("group", 1, A), ("group", 2, B)), ("open",), A, ("close", 1), ("open",), B, ("close", 2))

    def test_have(self):
        self.check(("have", 1, A, B), ("have", 1, 3), A, ("go", 4), B)
        self.check(("have", 2, EMPTY, row(A, B)), ("have", 2, 2), ("go", 4), A, B)
        self.check(("have", 1, row(A, B), EMPTY), ("have", 1, 4), A, B, ("go", 4))
        self.check(("have", 1, EMPTY, EMPTY), ("have", 1, 2), ("go", 2))

    def test_once_and_looks(self):
        self.check(("once", A), ("once",), A, ("kept",))
        self.check(("ahead", A), ("once",), A, ("peeked",))
        self.check(("notahead", A), ("bar", 3), A, ("barred",))
        self.check(("behind", A), ("once",), ("lean",), A, ("here",), ("peeked",))
        self.check(("notbehind", A), ("bar", 5), ("lean",), A, ("here",), ("barred",))
        self.check(("notahead", EMPTY), ("bar", 2), ("barred",))
        self.check(("notbehind", EMPTY), ("bar", 4), ("lean",), ("here",), ("barred",))

    def test_behind_others(self):
        self.check(row(C, C, either(A, B), C), C, C, ("try", 5), A, ("go", 6), B, C)
        self.check(row(C, times(0, 1, A), C), C, ("turns",), ("turn", 0, 1, "much", 5), A, ("next", 0, 2), C)
        self.check(row(C, times(0, 1, A, "keep"), C), C, ("once",), ("turns",), ("turn", 0, 1, "much", 6), A,
                   ("next", 0, 3), ("kept",), C)
        self.check(row(C, ("have", 1, A, B), C), C, ("have", 1, 4), A, ("go", 5), B, C)
        self.check(row(C, ("notahead", A), C), C, ("bar", 4), A, ("barred",), C)
        self.check(row(C, ("notbehind", A), C), C, ("bar", 6), ("lean",), A, ("here",), ("barred",), C)

    def test_several_deep(self):
        self.check(times(0, None, ("group", 1, either(A, row(B, times(1, 2, C, "little"))))),
                   ("turns",), ("turn", 0, None, "much", 13), ("open",), ("try", 6), A, ("go", 11),
                   B, ("turns",), ("turn", 1, 2, "little", 11), C, ("next", 1, 8), ("close", 1), ("next", 0, 1))
        self.check(("notbehind", ("have", 1, ("ahead", ("group", 1, A)), times(2, None, B, "keep"))),
                   ("bar", 17), ("lean",), ("have", 1, 9), ("once",), ("open",), A, ("close", 1), ("peeked",), ("go", 15),
                   ("once",), ("turns",), ("turn", 2, None, "much", 14), B, ("next", 2, 11), ("kept",),
                   ("here",), ("barred",))

    def test_against_rows_told_by_sizes(self):
        for pattern in [pair[0] for pair in KINDS] + mixed(1000):
            self.check(pattern, *rows_at(pattern, 0))

    def test_somewhat_beyond_the_bounds(self):
        self.check(row(*[A] * 12), *[A] * 12)
        self.check(times(12, 15, A), ("turns",), ("turn", 12, 15, "much", 4), A, ("next", 12, 1))
        self.check(("group", 12, A), ("open",), A, ("close", 12))
        self.check(("again", 12), ("again", 12))
        self.assertEqual(coded(either(*[A] * 12)), tuple(rows_at(either(*[A] * 12), 0)) + (FOUND,))
        deep = A
        for number in range(30, 0, -1):
            deep = ("group", number, deep)
        self.check(deep, *[("open",)] * 30, A, *[("close", number) for number in range(30, 0, -1)])

    def test_asked_again(self):
        one = row(either(A, B), times(0, 1, C))
        other = ("notahead", A)
        answer = coded(one)
        self.check(other, ("bar", 3), A, ("barred",))
        self.assertEqual(coded(one), answer)
        self.check(other, ("bar", 3), A, ("barred",))


if __name__ == "__main__":
    unittest.main()
