"""Patterns as texts: written, and read."""

from seek.bounds import MOST_DEEP, keeps_bounds
from seek.errors import Unread

STROKED = "\\.[](){}<>|^$&~"
STROKED_IN_RUNS = "\\[]^-"
BARE = {"any": ".", "begin": "^", "end": "$"}
LISTS = {"in": "[", "out": "[^"}
HOWS = {"much": "", "little": "?", "keep": "!"}
BRACKETS = {"once": "!", "ahead": "+", "notahead": "-", "behind": "*", "notbehind": "/"}
WRAPPED_IN_ROW = ("or",)
WRAPPED_IN_TIMES = ("row", "or", "times")
STOPS = ("", "|", ")", "~", ">")
DIGITS = "0123456789"
BLANK = 32
PERCENT = 37
LAST_SIGN = 126


def pattern_text(pattern):
    """The text of a pattern."""
    kind = pattern[0]
    if kind == "sign":
        return sign_text(pattern[1], STROKED)
    if kind in BARE:
        return BARE[kind]
    if kind in LISTS:
        return LISTS[kind] + "".join([run_text(low, high) for low, high in pattern[1]]) + "]"
    if kind == "row":
        return "".join([wrapped_text(part, WRAPPED_IN_ROW) for part in pattern[1]])
    if kind == "or":
        return "|".join([pattern_text(part) for part in pattern[1]])
    if kind == "times":
        return wrapped_text(pattern[4], WRAPPED_IN_TIMES) + turns_text(pattern[1], pattern[2], pattern[3])
    if kind == "group":
        return "(" + pattern_text(pattern[2]) + ")"
    if kind == "again":
        return "&" + str(pattern[1])
    if kind == "have":
        return "<" + str(pattern[1]) + pattern_text(pattern[2]) + "~" + pattern_text(pattern[3]) + ">"
    return "<" + BRACKETS[kind] + pattern_text(pattern[1]) + ">"


def sign_text(sign, stroked):
    """A sign, with a stroke ahead if it is one of those that have one."""
    return "\\" + sign if sign in stroked else sign


def run_text(low, high):
    """The text of a run."""
    first = sign_text(low, STROKED_IN_RUNS)
    if low == high:
        return first
    return first + "-" + sign_text(high, STROKED_IN_RUNS)


def wrapped_text(part, kinds):
    """The text of a part, in a bracket of its own if it is of one of these kinds."""
    text = pattern_text(part)
    return "<:" + text + ">" if part[0] in kinds else text


def turns_text(low, high, how):
    """What stands behind the part of a times."""
    return "{" + str(low) + "," + ("" if high is None else str(high)) + HOWS[how] + "}"


def read_pattern(text):
    """The pattern of which this text is written. Refuses with Unread."""
    if not all([is_sign(sign) for sign in text]):
        raise Unread("a sign that no text has")
    reader = Reader(text)
    pattern = reader.branches()
    reader.need("")
    if not keeps_bounds(pattern):
        raise Unread("beyond the bounds of a pattern")
    # The reader takes a `<:..>` wherever one may stand, around whatever it holds, and a run from a sign
    # to itself; writing the pattern again tells whether it is written so.
    if pattern_text(pattern) != text:
        raise Unread("a pattern that is written otherwise")
    return pattern


def is_sign(sign):
    """Whether texts may have this sign."""
    number = ord(sign)
    return BLANK <= number and number <= LAST_SIGN and number != PERCENT


class Reader:
    """A place in the text of a pattern, and what was met on the way to it."""

    def __init__(self, text):
        self.text = text
        self.place = 0
        self.groups = 0
        self.nested = 0

    def seen(self):
        """The sign at the place, or no sign at the text's end."""
        return self.text[self.place:self.place + 1]

    def take(self):
        """The sign at the place, gone past."""
        sign = self.seen()
        self.place += 1
        return sign

    def passes(self, sign):
        """Whether this sign stands at the place; if so, it is gone past."""
        if self.seen() != sign:
            return False
        self.place += 1
        return True

    def need(self, sign):
        """Goes past a sign that has to stand here; no sign is the text's end."""
        if self.take() != sign:
            raise Unread("something else has to stand here")

    def branches(self):
        """The pattern up to the end of its bracket, or of the text."""
        found = [self.line()]
        while self.passes("|"):
            found.append(self.line())
        return found[0] if len(found) == 1 else ("or", tuple(found))

    def line(self):
        """One branch: a row, or the one pattern that stands there."""
        parts = []
        while self.seen() not in STOPS:
            parts.append(self.part())
        return parts[0] if len(parts) == 1 else ("row", tuple(parts))

    def part(self):
        """One part of a row, with its turns."""
        part = self.single()
        return self.turns(part) if self.passes("{") else part

    def single(self):
        """One part of a row, without turns."""
        if self.passes("("):
            return self.group()
        if self.passes("<"):
            return self.bracket()
        if self.passes("["):
            return self.listed()
        if self.passes("&"):
            return ("again", self.digit())
        for kind in BARE:
            if self.passes(BARE[kind]):
                return (kind,)
        return ("sign", self.sign(STROKED))

    def within(self, close):
        """The pattern up to the sign that closes it, gone past too."""
        self.nested += 1
        # Whatever lies within so many brackets lies too deep; without a bound here, a long text of
        # brackets would ask for more calls within calls than there may be.
        if self.nested > MOST_DEEP:
            raise Unread("too deep")
        pattern = self.branches()
        self.need(close)
        self.nested -= 1
        return pattern

    def group(self):
        """A group, behind its first bracket."""
        self.groups += 1
        # The number is told ahead of the part, whose groups have the numbers behind it.
        number = self.groups
        return ("group", number, self.within(")"))

    def bracket(self):
        """What begins with `<`, behind that sign."""
        if self.passes(":"):
            return self.within(">")
        for kind in BRACKETS:
            if self.passes(BRACKETS[kind]):
                return (kind, self.within(">"))
        number = self.digit()
        yes = self.within("~")
        return ("have", number, yes, self.within(">"))

    def listed(self):
        """An in or an out, behind its first bracket."""
        kind = "out" if self.passes("^") else "in"
        runs = []
        while not self.passes("]"):
            runs.append(self.run())
        return (kind, tuple(runs))

    def run(self):
        """One run."""
        low = self.sign(STROKED_IN_RUNS)
        high = self.sign(STROKED_IN_RUNS) if self.passes("-") else low
        return (low, high)

    def sign(self, stroked):
        """One sign, with a stroke ahead if it has to have one, and only then."""
        stroke = self.passes("\\")
        sign = self.take()
        if sign == "" or (sign in stroked) != stroke:
            raise Unread("a sign that is not written so")
        return sign

    def digit(self):
        """A number of one digit: no number of a pattern has more."""
        sign = self.take()
        if sign == "" or sign not in DIGITS:
            raise Unread("a number has to stand here")
        return int(sign)

    def turns(self, part):
        """A times of this part, behind the bracket ahead of its numbers."""
        low = self.digit()
        self.need(",")
        high = None if self.seen() in ("?", "!", "}") else self.digit()
        how = "much"
        if self.passes("?"):
            how = "little"
        elif self.passes("!"):
            how = "keep"
        self.need("}")
        return ("times", low, high, how, part)
