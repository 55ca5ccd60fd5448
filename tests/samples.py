"""Patterns for the tests: short names for them, one of each kind, and many mixed ones; and texts."""

import itertools


def sign(s):
    return ("sign", s)


A = sign("a")
B = sign("b")
C = sign("c")
EMPTY = ("row", ())


def row(*parts):
    return ("row", parts)


def either(*parts):
    return ("or", parts)


def times(low, high, part, how="much"):
    return ("times", low, high, how, part)


# Each kind by itself, around the sign a where it has parts, with its text. Those with an again or a have
# are whole patterns only where a group 1 stands too.
KINDS = [
    (A, "a"),
    (("any",), "."),
    (("in", (("a", "c"),)), "[a-c]"),
    (("out", (("a", "c"),)), "[^a-c]"),
    (("begin",), "^"),
    (("end",), "$"),
    (EMPTY, ""),
    (row(A, B), "ab"),
    (either(A, B), "a|b"),
    (times(0, 1, A), "a{0,1}"),
    (times(2, None, A), "a{2,}"),
    (times(0, 1, A, "little"), "a{0,1?}"),
    (times(2, None, A, "little"), "a{2,?}"),
    (times(0, 1, A, "keep"), "a{0,1!}"),
    (times(2, None, A, "keep"), "a{2,!}"),
    (("group", 1, A), "(a)"),
    (("again", 1), "&1"),
    (("have", 1, A, B), "<1a~b>"),
    (("once", A), "<!a>"),
    (("ahead", A), "<+a>"),
    (("notahead", A), "<-a>"),
    (("behind", A), "<*a>"),
    (("notbehind", A), "</a>"),
]

WITHOUT_PARTS = ["sign", "any", "in", "out", "begin", "end", "empty", "again"]
WITH_PARTS = ["row", "or", "times", "group", "have", "once", "ahead", "notahead", "behind", "notbehind"]
SIGNS = [chr(n) for n in range(32, 127) if chr(n) != "%"]


class Mixer:
    """Makes mixed patterns, the same ones each time: its numbers come from a fixed row of numbers."""

    signs = SIGNS
    without_parts = WITHOUT_PARTS
    with_parts = WITH_PARTS
    hows = ["much", "little", "keep"]
    most_patterns = 60
    most_deep = 8
    most_turns = 9

    def __init__(self, seed):
        self.state = seed
        self.left = 0
        self.groups = 0

    def below(self, bound):
        self.state = (self.state * 6364136223846793005 + 1442695040888963407) % 2 ** 64
        return (self.state >> 33) % bound

    def one_of(self, choices):
        return choices[self.below(len(choices))]

    def whole(self):
        """A whole pattern that keeps to all bounds."""
        self.left = 1 + self.below(self.most_patterns)
        self.groups = 0
        pattern = self.pattern(1 + self.below(self.most_deep), "")
        return self.with_numbers(pattern) if self.groups else without_numbers(pattern)

    def pattern(self, deep, around):
        """A pattern of at most so many patterns as are left, for a place within one of the kind around."""
        self.left -= 1
        if deep == 1 or self.left < 2:
            kind = self.one_of([k for k in self.without_parts if k != "empty" or around != "row"])
        else:
            kind = self.one_of([k for k in self.with_parts if self.may_stand(k, around)])
        return self.of_kind(kind, deep)

    def may_stand(self, kind, around):
        if kind == "group":
            return self.groups < 9
        return kind != around or kind not in ("row", "or")

    def parts(self, size, kind, deep):
        self.left -= size
        parts = []
        for _ in range(size):
            self.left += 1
            parts.append(self.pattern(deep - 1, kind))
        return tuple(parts)

    def of_kind(self, kind, deep):
        if kind == "sign":
            return sign(self.one_of(self.signs))
        if kind in ("any", "begin", "end"):
            return (kind,)
        if kind in ("in", "out"):
            return (kind, tuple(self.run() for _ in range(1 + self.below(8))))
        if kind == "empty":
            return EMPTY
        if kind in ("row", "or"):
            return (kind, self.parts(min(2 + self.below(7), self.left), kind, deep))
        if kind == "times":
            low = self.below(self.most_turns + 1)
            high = self.one_of([None] + list(range(max(low, 1), self.most_turns + 1)))
            return ("times", low, high, self.one_of(self.hows)) + self.parts(1, kind, deep)
        if kind == "again":
            return ("again", 0)
        if kind == "have":
            return ("have", 0) + self.parts(2, kind, deep)
        if kind == "group":
            self.groups += 1
            return ("group", self.groups) + self.parts(1, kind, deep)
        return (kind,) + self.parts(1, kind, deep)

    def run(self):
        low = self.below(len(self.signs))
        high = low if self.below(2) else low + self.below(len(self.signs) - low)
        return (self.signs[low], self.signs[high])

    def with_numbers(self, pattern):
        """The same, with a group's number in each again and have."""
        if not isinstance(pattern, tuple):
            return pattern
        if pattern[:1] in (("again",), ("have",)):
            pattern = (pattern[0], 1 + self.below(self.groups)) + pattern[2:]
        return tuple(self.with_numbers(item) for item in pattern)


class SmallMixer(Mixer):
    """Mixed patterns of few signs, which often have ways over texts of a and b."""

    signs = ["a", "b"]
    without_parts = WITHOUT_PARTS + ["sign"] * 6 + ["any"] * 4 + ["again", "empty"]
    with_parts = WITH_PARTS + ["row", "or", "times", "group"] * 3
    most_patterns = 16
    most_deep = 6
    most_turns = 3


class PlainMixer(SmallMixer):
    """The same, plain ones alone."""

    without_parts = ["in", "out", "begin", "end", "empty"] + ["sign"] * 5 + ["any"] * 5
    with_parts = ["row", "or", "times", "times", "group"]
    hows = ["much", "little"]


def without_numbers(pattern):
    """The same, with another pattern for each again and have: for a pattern without a group."""
    if not isinstance(pattern, tuple):
        return pattern
    if pattern[:1] == ("again",):
        return ("any",)
    if pattern[:1] == ("have",):
        pattern = ("ahead", pattern[2])
    return tuple(without_numbers(item) for item in pattern)


def mixed(how_many, mixer=Mixer):
    maker = mixer(1)
    return [maker.whole() for _ in range(how_many)]


def texts_up_to(length, signs="ab"):
    """All texts of these signs of at most so many signs."""
    return ["".join(chosen) for size in range(length + 1) for chosen in itertools.product(signs, repeat=size)]
