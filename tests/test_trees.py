import unittest

from samples import A, B, C, EMPTY, KINDS, either, mixed, row, times
from seek.trees import groups_in, is_plain, spans

PLAIN_KINDS = ["sign", "any", "in", "out", "begin", "end", "row", "or", "group"]


def plain_by_itself(pattern):
    return pattern[0] in PLAIN_KINDS or pattern[0] == "times" and pattern[3] != "keep"


def around(part):
    """A part within each kind that has parts, and in each of the places there."""
    return [
        row(part, A), row(A, B, part), either(part, A), either(A, EMPTY, part),
        times(0, 1, part), times(1, None, part, "little"), times(0, 3, part, "keep"),
        ("group", 1, part), ("have", 1, part, A), ("have", 1, A, part), ("once", part),
        ("ahead", part), ("notahead", part), ("behind", part), ("notbehind", part),
    ]


def all_within(pattern):
    """Every tuple in a pattern that begins with the name of a kind."""
    found = [pattern] if isinstance(pattern[0], str) and len(pattern[0]) > 1 else []
    for item in pattern:
        if isinstance(item, tuple) and item:
            found += all_within(item)
    return found


class GroupsIn(unittest.TestCase):
    def test_each_kind_by_itself(self):
        for pattern, text in KINDS:
            self.assertEqual(groups_in(pattern), 1 if pattern[0] == "group" else 0, text)

    def test_a_group_in_each_place(self):
        for once_in in around(("group", 1, A)):
            more = 1 if once_in[0] == "group" else 0
            self.assertEqual(groups_in(once_in), 1 + more, once_in)
            for twice_in in around(once_in):
                most = 1 if twice_in[0] == "group" else 0
                self.assertEqual(groups_in(twice_in), 1 + more + most, twice_in)

    def test_both_patterns_of_have(self):
        self.assertEqual(groups_in(("have", 1, ("group", 1, A), ("group", 2, ("group", 3, B)))), 3)

    def test_nine_groups(self):
        nested = A
        for number in range(7, 0, -1):
            nested = ("group", number, nested)
        self.assertEqual(groups_in(nested), 7)
        self.assertEqual(groups_in(row(nested, ("group", 8, B), times(0, None, ("group", 9, C)))), 9)

    def test_somewhat_beyond_nine_groups(self):
        self.assertEqual(groups_in(row(*[("group", number, A) for number in range(1, 13)])), 12)

    def test_mixed(self):
        for pattern in mixed(300):
            expected = len([part for part in all_within(pattern) if part[0] == "group"])
            self.assertEqual(groups_in(pattern), expected, pattern)

    def test_the_answer_is_a_whole_number_and_stays(self):
        pattern = row(("group", 1, A), B)
        self.assertIs(type(groups_in(pattern)), int)
        self.assertIs(type(groups_in(A)), int)
        self.assertEqual(groups_in(A), 0)
        self.assertEqual(groups_in(pattern), 1)
        self.assertEqual(groups_in(A), 0)
        self.assertEqual(pattern, row(("group", 1, A), B))


class IsPlain(unittest.TestCase):
    def test_each_kind_by_itself(self):
        for pattern, text in KINDS:
            self.assertIs(is_plain(pattern), plain_by_itself(pattern), text)

    def test_each_kind_in_each_place(self):
        for pattern, text in KINDS:
            for once_in in around(pattern):
                expected = plain_by_itself(pattern) and plain_by_itself(once_in)
                self.assertIs(is_plain(once_in), expected, once_in)
                for twice_in in around(once_in):
                    self.assertIs(is_plain(twice_in), expected and plain_by_itself(twice_in), twice_in)

    def test_mixed(self):
        for pattern in mixed(300):
            expected = all(plain_by_itself(part) for part in all_within(pattern))
            self.assertIs(is_plain(pattern), expected, pattern)

    def test_asked_again(self):
        self.assertIs(is_plain(A), True)
        self.assertIs(is_plain(("once", A)), False)
        self.assertIs(is_plain(A), True)
        self.assertIs(is_plain(("once", A)), False)


class Spans(unittest.TestCase):
    def check(self, pattern, least, most):
        answer = spans(pattern)
        self.assertIs(type(answer), tuple)
        self.assertEqual(answer, (least, most), pattern)
        for number in answer:
            self.assertIn(type(number), (int, type(None)))

    def test_one_sign(self):
        for pattern in [A, ("any",), ("in", (("a", "c"), ("x", "x"))), ("out", (("a", "c"),))]:
            self.check(pattern, 1, 1)

    def test_begin_end_and_looks(self):
        for pattern in [("begin",), ("end",)]:
            self.check(pattern, 0, 0)
        for look in ["ahead", "notahead", "behind", "notbehind"]:
            self.check((look, row(A, B)), 0, 0)
            self.check((look, ("again", 1)), 0, 0)

    def test_again(self):
        self.check(("again", 1), 0, None)

    def test_once_and_group(self):
        for part, least, most in [(A, 1, 1), (row(A, B), 2, 2), (times(2, None, A), 2, None), (EMPTY, 0, 0)]:
            self.check(("once", part), least, most)
            self.check(("group", 1, part), least, most)
            self.check(("group", 1, ("once", part)), least, most)

    def test_row(self):
        self.check(EMPTY, 0, 0)
        self.check(row(A, B, C), 3, 3)
        self.check(row(A, times(0, 1, B)), 1, 2)
        self.check(row(times(2, 3, A), times(1, 4, B)), 3, 7)
        self.check(row(("again", 1), A), 1, None)
        self.check(row(A, ("begin",), ("again", 1)), 1, None)

    def test_or_and_have(self):
        for one, two, least, most in [
            (A, row(A, B), 1, 2), (row(A, B, C), A, 1, 3), (EMPTY, A, 0, 1), (A, EMPTY, 0, 1),
            (times(3, 4, A), times(2, 9, A), 2, 9), (times(2, 9, A), times(3, 4, A), 2, 9),
            (A, ("again", 1), 0, None), (times(2, None, A), row(A, B, C), 2, None),
            (row(A, B, C), times(2, None, A), 2, None), (("begin",), ("ahead", A), 0, 0),
        ]:
            self.check(("or", (one, two)), least, most)
            self.check(("have", 1, one, two), least, most)
        self.check(either(row(A, B), A, row(A, B, C)), 1, 3)
        self.check(either(row(A, B), ("again", 1), row(A, B, C)), 0, None)

    def test_times(self):
        for how in ["much", "little", "keep"]:
            self.check(times(0, 1, A, how), 0, 1)
            self.check(times(2, 5, row(A, B), how), 4, 10)
            self.check(times(9, 9, A, how), 9, 9)
            self.check(times(0, None, A, how), 0, None)
            self.check(times(3, None, row(A, B), how), 6, None)
            self.check(times(2, 3, times(1, 4, A), how), 2, 12)
            self.check(times(2, 3, times(1, None, A), how), 2, None)
            self.check(times(2, None, ("again", 1), how), 0, None)
            self.check(times(2, 3, either(EMPTY, A), how), 0, 3)

    def test_times_of_a_part_whose_most_is_0(self):
        for part in [EMPTY, ("begin",), ("end",), ("ahead", A), ("notbehind", A), row(("begin",), ("end",))]:
            self.check(times(0, None, part), 0, 0)
            self.check(times(2, None, part, "little"), 0, 0)
            self.check(times(2, 7, part, "keep"), 0, 0)
            self.check(times(1, None, times(1, None, part)), 0, 0)

    def test_somewhat_beyond_the_bounds(self):
        self.check(row(*[A] * 12), 12, 12)
        self.check(either(*[A] * 12), 1, 1)
        self.check(times(10, 15, row(A, B)), 20, 30)
        deep = A
        for number in range(1, 30):
            deep = ("group", number, deep)
        self.check(deep, 1, 1)


if __name__ == "__main__":
    unittest.main()
