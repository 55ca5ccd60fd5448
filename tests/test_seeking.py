import unittest

from plain import count_groups, first, ways
from samples import A, B, EMPTY, SmallMixer, mixed, row, texts_up_to, times
from seek.codes import coded
from seek.errors import Memory, NoForm, Over, SeekError, Unread
from seek.machine import Machine
from seek.seeking import all_finds, first_find, formed, parted, replaced
from seek.texts import read_pattern

MANY = 100000


def plain_find(pattern, text, start):
    """The first find from a place on, by the ways of the document."""
    for begin in range(start, len(text) + 1):
        way = first(ways(pattern, text, begin, (None,) * count_groups(pattern)))
        if way is not None:
            return (begin,) + way
    return None


def plain_finds(pattern, text):
    finds = []
    find = plain_find(pattern, text, 0)
    while find is not None:
        finds.append(find)
        find = plain_find(pattern, text, find[1] + (find[0] == find[1]))
    return finds


def moves_at(pattern, text, place):
    machine = Machine(coded(pattern), text, place)
    machine.way(MANY)
    return machine.moves()


def places_tried(text, finds):
    """Every place that is gone through for these finds, which are all of the text."""
    places = []
    start = 0
    for find in finds:
        places += range(start, find[0] + 1)
        start = find[1] + (find[0] == find[1])
    return places + list(range(start, len(text) + 1))


class Seeking(unittest.TestCase):
    def over(self, function, *arguments):
        for _ in range(2):
            with self.assertRaises(Over) as caught:
                function(*arguments)
            self.assertIsInstance(caught.exception, SeekError)
            self.assertNotIsInstance(caught.exception, (Unread, NoForm, Memory))

    def no_form(self, function, *arguments):
        for _ in range(2):
            with self.assertRaises(NoForm) as caught:
                function(*arguments)
            self.assertIsInstance(caught.exception, SeekError)
            self.assertNotIsInstance(caught.exception, (Unread, Over, Memory))


class FirstFind(Seeking):
    def check(self, written, text, start, expected):
        pattern = read_pattern(written)
        for _ in range(2):
            self.assertEqual(repr(first_find(pattern, text, start, MANY)), repr(expected), (written, text, start))
        self.assertEqual(plain_find(pattern, text, start), expected)

    def test_from_each_place(self):
        for start, expected in enumerate([(1, 3, ()), (1, 3, ()), (2, 3, ()), (4, 5, ()), (4, 5, ()), None]):
            self.check("a{1,}", "baaba", start, expected)

    def test_that_took_no_sign(self):
        for start in range(3):
            self.check("", "ab", start, (start, start, ()))
        self.check("", "", 0, (0, 0, ()))
        self.check("a{0,}", "ba", 0, (0, 0, ()))
        self.check("a{0,}", "ba", 1, (1, 2, ()))
        self.check("a{0,}", "ba", 2, (2, 2, ()))
        self.check("$", "ab", 0, (2, 2, ()))
        self.check("$", "ab", 2, (2, 2, ()))
        self.check("^", "ab", 0, (0, 0, ()))
        self.check("^", "ab", 1, None)

    def test_none(self):
        self.check("c", "ab", 0, None)
        self.check("a", "ab", 1, None)
        self.check("a", "", 0, None)
        self.check("a", "a", 1, None)

    def test_groups_and_order(self):
        self.check("(a|ab)(c|bcd)(d{0,})", "xabcd", 0, (1, 5, ((1, 2), (2, 5), (5, 5))))
        self.check("a{0,?}", "aa", 1, (1, 1, ()))
        self.check("ab|b", "xab", 0, (1, 3, ()))
        self.check("b|ab", "xab", 2, (2, 3, ()))
        self.check("(a){0,1}b", "xb", 0, (1, 2, (None,)))
        # A look may see what stands ahead of the place that is begun at.
        self.check("<*(a)>b", "ab", 1, (1, 2, ((0, 1),)))
        self.check("</a>b", "abb", 1, (2, 3, ()))

    def test_moves_of_one_place(self):
        for written, text, moves in [("", "", 1), ("a", "a", 2), ("ab", "ab", 3), ("a{0,1}", "a", 6), ("a|b", "b", 4)]:
            pattern = read_pattern(written)
            self.assertEqual(moves_at(pattern, text, 0), moves)
            find = first_find(pattern, text, 0, moves)
            self.assertEqual(find, (0, len(text), ()))
            self.assertEqual(first_find(pattern, text, 0, moves + 1), find)
            if moves > 1:
                self.over(first_find, pattern, text, 0, moves - 1)
                self.over(first_find, pattern, text, 0, 1)
            self.assertEqual(first_find(pattern, text, 0, moves), find)

    def test_moves_of_many_places(self):
        # One move for each place without a way, two for that with one.
        self.assertEqual(first_find(A, "bba", 0, 4), (2, 3, ()))
        self.over(first_find, A, "bba", 0, 3)
        self.over(first_find, A, "bba", 0, 2)
        self.over(first_find, A, "bba", 0, 1)
        self.assertEqual(first_find(A, "bba", 1, 3), (2, 3, ()))
        self.over(first_find, A, "bba", 1, 2)
        self.assertIsNone(first_find(A, "bb", 0, 3))
        self.over(first_find, A, "bb", 0, 2)
        self.assertIsNone(first_find(A, "bb", 2, 1))
        self.assertIsNone(first_find(A, "", 0, 1))

    def test_against_plain_ways(self):
        texts = texts_up_to(3) + ["abab", "aabb", "baaab"]
        for number, pattern in enumerate(mixed(1000, SmallMixer)):
            text = texts[number % len(texts)]
            for start in range(len(text) + 1):
                if sum(moves_at(pattern, text, place) for place in range(len(text) + 1)) < 20000:
                    expected = plain_find(pattern, text, start)
                    self.assertEqual(first_find(pattern, text, start, MANY), expected, (pattern, text, start))
                    last = len(text) if expected is None else expected[0]
                    moves = sum(moves_at(pattern, text, place) for place in range(start, last + 1))
                    self.assertEqual(first_find(pattern, text, start, moves), expected)
                    if moves > 1:
                        self.over(first_find, pattern, text, start, moves - 1)


class AllFinds(Seeking):
    def check(self, written, text, *expected):
        pattern = read_pattern(written)
        for _ in range(2):
            answer = all_finds(pattern, text, MANY)
            self.assertIs(type(answer), list)
            self.assertEqual(repr(answer), repr(list(expected)), (written, text))
        self.assertEqual(plain_finds(pattern, text), list(expected))

    def test_no_find_one_and_many(self):
        self.check("c", "ab")
        self.check("a", "")
        self.check("b", "abc", (1, 2, ()))
        self.check("a", "aba", (0, 1, ()), (2, 3, ()))
        self.check("aa", "aaaaa", (0, 2, ()), (2, 4, ()))
        self.check("(a|b){1,}", "abcb", (0, 2, ((1, 2),)), (3, 4, ((3, 4),)))

    def test_that_took_no_sign(self):
        self.check("", "", (0, 0, ()))
        self.check("", "ab", (0, 0, ()), (1, 1, ()), (2, 2, ()))
        self.check("$", "ab", (2, 2, ()))
        self.check("^", "ab", (0, 0, ()))
        self.check("a{0,}", "aa", (0, 2, ()), (2, 2, ()))
        self.check("a{0,}", "baac", (0, 0, ()), (1, 3, ()), (3, 3, ()), (4, 4, ()))
        self.check("a{0,?}", "aa", (0, 0, ()), (1, 1, ()), (2, 2, ()))
        self.check("|a", "a", (0, 0, ()), (1, 1, ()))
        self.check("<+(a)>", "aba", (0, 0, ((0, 1),)), (2, 2, ((2, 3),)))
        self.check("<*(a)>", "aba", (1, 1, ((0, 1),)), (3, 3, ((2, 3),)))

    def test_moves_counted_together(self):
        # Two moves for each find of a, one for each place without one, the last place too.
        for text, moves in [("", 1), ("a", 3), ("aa", 5), ("ba", 4), ("bab", 5)]:
            finds = [(place, place + 1, ()) for place, s in enumerate(text) if s == "a"]
            self.assertEqual(all_finds(A, text, moves), finds)
            for fewer in range(1, moves):
                self.over(all_finds, A, text, fewer)
        self.assertEqual(len(all_finds(EMPTY, "ab", 3)), 3)
        self.over(all_finds, EMPTY, "ab", 2)
        self.assertEqual(len(all_finds(EMPTY, "a" * 200, 201)), 201)
        self.over(all_finds, EMPTY, "a" * 200, 200)

    def test_against_plain_ways(self):
        texts = texts_up_to(3) + ["abab", "aabb", "baaab", "abaababb"]
        for number, pattern in enumerate(mixed(1500, SmallMixer)):
            text = texts[number % len(texts)]
            if max(moves_at(pattern, text, place) for place in range(len(text) + 1)) < 10000:
                expected = plain_finds(pattern, text)
                self.assertEqual(all_finds(pattern, text, MANY), expected, (pattern, text))
                moves = sum(moves_at(pattern, text, place) for place in places_tried(text, expected))
                self.assertEqual(all_finds(pattern, text, moves), expected)
                if moves > 1:
                    self.over(all_finds, pattern, text, moves - 1)

    def test_a_list_that_was_told_is_its_owners(self):
        finds = all_finds(A, "aba", MANY)
        finds.append("more")
        finds[0] = None
        self.assertEqual(all_finds(A, "aba", MANY), [(0, 1, ()), (2, 3, ())])


class Formed(Seeking):
    TEXT = "xaby"
    FIND = (1, 3, ((1, 2), None, (2, 3)))

    def check(self, form, expected):
        for _ in range(2):
            self.assertEqual(formed(form, self.TEXT, self.FIND), expected, form)

    def test_what_stands_for_itself(self):
        for form in ["", "a", "0", "12", "\\", "{1}", "\\1", "&1", " ~", "(.)"]:
            self.check(form, form)

    def test_marks(self):
        self.check("$0", "ab")
        self.check("$1", "a")
        self.check("$2", "")
        self.check("$3", "b")
        self.check("$$", "$")
        self.check("<$0|$1|$2|$3|$$>", "<ab|a||b|$>")
        self.check("$3$1$3", "bab")

    def test_signs_behind_marks(self):
        self.check("$10", "a0")
        self.check("$00", "ab0")
        self.check("$$1", "$1")
        self.check("$$$1", "$a")
        self.check("$$$$", "$$")
        self.check("$1$$", "a$")
        self.check("$$a$$", "$a$")

    def test_no_form(self):
        for form in ["$4", "$9", "$", "a$", "$$$", "$1$", "$a", "$ ", "$-1", "$+1", "$.", "$(1)", "${1}", "$&", "x$4",
                     "$0$1$2$3$4", "$$$4", "$^", "$~", "$a$", "$\\1"]:
            self.no_form(formed, form, self.TEXT, self.FIND)

    def test_a_find_without_groups(self):
        self.assertEqual(formed("<$0>$$", "abc", (1, 2, ())), "<b>$")
        self.assertEqual(formed("<$0>", "abc", (1, 1, ())), "<>")
        for number in range(1, 10):
            self.no_form(formed, "$" + str(number), "abc", (1, 2, ()))

    def test_nine_groups(self):
        text = "abcdefghi"
        find = (0, 9, tuple((place, place + 1) for place in range(9)))
        self.assertEqual(formed("$9$8$7$6$5$4$3$2$1$0", text, find), text[::-1] + text)
        for groups in range(9):
            self.no_form(formed, "$" + str(groups + 1), text, (0, 9, find[2][:groups]))
            self.assertEqual(formed("$" + str(groups), text, (0, 9, find[2][:groups])), text[groups - 1] if groups else text)

    def test_a_group_outside_of_the_find(self):
        find = first_find(read_pattern("<*(a)>b<+(c)>"), "abc", 0, MANY)
        self.assertEqual(formed("$1$0$2", "abc", find), "abc")


class Parted(Seeking):
    def check(self, written, text, *expected):
        pattern = read_pattern(written)
        for _ in range(2):
            answer = parted(pattern, text, MANY)
            self.assertIs(type(answer), list)
            self.assertEqual(answer, list(expected), (written, text))

    def test_finds(self):
        self.check(",", "abc", "abc")
        self.check(",", "", "")
        self.check(",", "a,b", "a", "b")
        self.check(",", "a,b,,c", "a", "b", "", "c")
        self.check(",", ",", "", "")
        self.check(",", ",a,", "", "a", "")
        self.check("a", "aa", "", "", "")
        self.check(".{0,}", "ab", "", "", "")

    def test_finds_that_took_nothing(self):
        self.check("", "", "", "")
        self.check("", "ab", "", "a", "b", "")
        self.check("a{0,}", "baac", "", "b", "", "c", "")
        self.check("^", "ab", "", "ab")
        self.check("$", "ab", "ab", "")
        self.check("<+b>", "abab", "a", "ba", "b")

    def test_over(self):
        self.assertEqual(parted(A, "bab", 5), ["b", "b"])
        for fewer in range(1, 5):
            self.over(parted, A, "bab", fewer)
        self.assertEqual(parted(A, "b", 2), ["b"])
        self.over(parted, A, "b", 1)

    def test_the_texts_with_the_finds_between_are_the_text(self):
        for number, pattern in enumerate(mixed(600, SmallMixer)):
            text = ["", "ab", "aabab", "bbaab"][number % 4]
            if max(moves_at(pattern, text, place) for place in range(len(text) + 1)) < 10000:
                finds = all_finds(pattern, text, MANY)
                texts = parted(pattern, text, MANY)
                self.assertEqual(len(texts), len(finds) + 1)
                whole = texts[0]
                for find, behind in zip(finds, texts[1:]):
                    whole += text[find[0]:find[1]] + behind
                self.assertEqual(whole, text)
                self.assertEqual(replaced(pattern, text, "$0", MANY), text)
                self.assertEqual(replaced(pattern, text, "", MANY), "".join(texts))
                self.assertEqual(replaced(pattern, text, "<$$$0>", MANY), with_marks(texts, finds, text))

    def test_a_list_that_was_told_is_its_owners(self):
        texts = parted(A, "bab", MANY)
        texts.append("more")
        self.assertEqual(parted(A, "bab", MANY), ["b", "b"])


def with_marks(texts, finds, text):
    whole = texts[0]
    for find, behind in zip(finds, texts[1:]):
        whole += "<$" + text[find[0]:find[1]] + ">" + behind
    return whole


class Replaced(Seeking):
    def check(self, written, text, form, expected):
        for _ in range(2):
            self.assertEqual(replaced(read_pattern(written), text, form, MANY), expected, (written, text, form))

    def test_finds(self):
        self.check("a", "bcb", "x", "bcb")
        self.check("a", "", "x", "")
        self.check("a", "bab", "x", "bxb")
        self.check("a", "aba", "xyz", "xyzbxyz")
        self.check("a", "aba", "", "b")
        self.check("(.)(.)", "abcde", "$2$1", "badce")
        self.check("(a)|(b)", "abc", "<$1,$2>", "<a,><,b>c")
        self.check("a", "a$1a", "$$1", "$1$1$1")

    def test_finds_that_took_nothing(self):
        self.check("", "", "x", "x")
        self.check("", "ab", "-", "-a-b-")
        self.check("a{0,}", "baac", "-", "-b--c-")
        self.check("a{0,}", "baac", "<$0>", "<>b<aa><>c<>")
        self.check("^", "ab", "x", "xab")
        self.check("$", "ab", "x", "abx")
        self.check("^|$", "", "x", "x")

    def test_what_was_put_in_is_not_gone_through(self):
        self.check("a", "aa", "aa", "aaaa")
        self.check("a", "ab", "$$0", "$0b")

    def test_no_form_ahead_of_all_else(self):
        group = read_pattern("(a)")
        for form in ["$", "x$", "$2", "$9", "$x", "$$$", "$1$2"]:
            for text in ["", "b", "a", "ab" * 20]:
                for most in [1, 2, MANY]:
                    self.no_form(replaced, group, text, form, most)
        for text in ["", "a"]:
            self.no_form(replaced, A, text, "$1", 1)
            self.no_form(replaced, EMPTY, text, "$1", 1)
        # No way at all, and far too few moves for that.
        self.no_form(replaced, row(times(0, None, times(0, None, A)), B), "a" * 30, "$1", 1)
        self.over(replaced, row(times(0, None, times(0, None, A)), B), "a" * 30, "$0", 1)

    def test_a_group_that_took_nothing_is_there(self):
        self.check("(a){0,1}b", "bab", "[$1]", "[][a]")
        self.check("<-(a)>.", "ba", "$1", "a")

    def test_over(self):
        self.assertEqual(replaced(A, "bab", "x", 5), "bxb")
        for fewer in range(1, 5):
            self.over(replaced, A, "bab", "x", fewer)
        self.assertEqual(replaced(EMPTY, "", "x", 1), "x")


if __name__ == "__main__":
    unittest.main()
