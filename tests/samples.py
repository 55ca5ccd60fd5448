"""Patterns for the tests: short names for them, one of each kind, and many mixed ones."""


def sign(s):
    return ("sign", s)


A = sign("a")
B = sign("b")
C = sign("c")
EMPTY = ("row", ())


def row(*parts):
    return ("row", parts)


def either(*parts):
    return ("or", parts)


def times(low, high, part, how="much"):
    return ("times", low, high, how, part)


# Each kind by itself, around the sign a where it has parts, with its text. Those with an again or a have
# are whole patterns only where a group 1 stands too.
KINDS = [
    (A, "a"),
    (("any",), "."),
    (("in", (("a", "c"),)), "[a-c]"),
    (("out", (("a", "c"),)), "[^a-c]"),
    (("begin",), "^"),
    (("end",), "$"),
    (EMPTY, ""),
    (row(A, B), "ab"),
    (either(A, B), "a|b"),
    (times(0, 1, A), "a{0,1}"),
    (times(2, None, A), "a{2,}"),
    (times(0, 1, A, "little"), "a{0,1?}"),
    (times(2, None, A, "little"), "a{2,?}"),
    (times(0, 1, A, "keep"), "a{0,1!}"),
    (times(2, None, A, "keep"), "a{2,!}"),
    (("group", 1, A), "(a)"),
    (("again", 1), "&1"),
    (("have", 1, A, B), "<1a~b>"),
    (("once", A), "<!a>"),
    (("ahead", A), "<+a>"),
    (("notahead", A), "<-a>"),
    (("behind", A), "<*a>"),
    (("notbehind", A), "</a>"),
]

WITHOUT_PARTS = ["sign", "any", "in", "out", "begin", "end", "empty", "again"]
WITH_PARTS = ["row", "or", "times", "group", "have", "once", "ahead", "notahead", "behind", "notbehind"]
SIGNS = [chr(n) for n in range(32, 127) if chr(n) != "%"]


class Mixer:
    """Makes mixed patterns, the same ones each time: its numbers come from a fixed row of numbers."""

    def __init__(self, seed):
        self.state = seed
        self.left = 0
        self.groups = 0

    def below(self, bound):
        self.state = (self.state * 6364136223846793005 + 1442695040888963407) % 2 ** 64
        return (self.state >> 33) % bound

    def one_of(self, choices):
        return choices[self.below(len(choices))]

    def whole(self):
        """A whole pattern that keeps to all bounds."""
        self.left = 1 + self.below(60)
        self.groups = 0
        pattern = self.pattern(1 + self.below(8), "")
        return self.with_numbers(pattern) if self.groups else without_numbers(pattern)

    def pattern(self, deep, around):
        """A pattern of at most so many patterns as are left, for a place within one of the kind around."""
        self.left -= 1
        if deep == 1 or self.left < 2:
            kind = self.one_of([k for k in WITHOUT_PARTS if k != "empty" or around != "row"])
        else:
            kind = self.one_of([k for k in WITH_PARTS if k != around or k not in ("row", "or")])
        return self.of_kind(kind, deep)

    def parts(self, size, kind, deep):
        self.left -= size
        parts = []
        for _ in range(size):
            self.left += 1
            parts.append(self.pattern(deep - 1, kind))
        return tuple(parts)

    def of_kind(self, kind, deep):
        if kind == "sign":
            return sign(self.one_of(SIGNS))
        if kind in ("any", "begin", "end"):
            return (kind,)
        if kind in ("in", "out"):
            return (kind, tuple(self.run() for _ in range(1 + self.below(8))))
        if kind == "empty":
            return EMPTY
        if kind in ("row", "or"):
            return (kind, self.parts(min(2 + self.below(7), self.left), kind, deep))
        if kind == "times":
            low = self.below(10)
            high = self.one_of([None] + list(range(max(low, 1), 10)))
            return ("times", low, high, self.one_of(["much", "little", "keep"])) + self.parts(1, kind, deep)
        if kind == "again":
            return ("again", 0)
        if kind == "have":
            return ("have", 0) + self.parts(2, kind, deep)
        if kind == "group" and self.groups < 9:
            self.groups += 1
            return ("group", self.groups) + self.parts(1, kind, deep)
        return ("once" if kind == "group" else kind,) + self.parts(1, kind, deep)

    def run(self):
        low = self.below(len(SIGNS))
        high = low if self.below(2) else low + self.below(len(SIGNS) - low)
        return (SIGNS[low], SIGNS[high])

    def with_numbers(self, pattern):
        """The same, with a group's number in each again and have."""
        if not isinstance(pattern, tuple):
            return pattern
        if pattern[:1] in (("again",), ("have",)):
            pattern = (pattern[0], 1 + self.below(self.groups)) + pattern[2:]
        return tuple(self.with_numbers(item) for item in pattern)


def without_numbers(pattern):
    """The same, with another pattern for each again and have: for a pattern without a group."""
    if not isinstance(pattern, tuple):
        return pattern
    if pattern[:1] == ("again",):
        return ("any",)
    if pattern[:1] == ("have",):
        pattern = ("ahead", pattern[2])
    return tuple(without_numbers(item) for item in pattern)


def mixed(how_many):
    mixer = Mixer(1)
    return [mixer.whole() for _ in range(how_many)]
