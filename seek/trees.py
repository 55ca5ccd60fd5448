"""What stands within a pattern, and what can be told of it without a text."""

ONE_SIGN = ("sign", "any", "in", "out")
NOTHING_TAKEN = ("begin", "end", "ahead", "notahead", "behind", "notbehind")
PART_LAST = ("times", "group", "once", "ahead", "notahead", "behind", "notbehind")
NOT_PLAIN = ("again", "have", "once", "ahead", "notahead", "behind", "notbehind")


def parts_of(pattern):
    """The patterns that stand straight within a pattern, in their order."""
    kind = pattern[0]
    if kind == "row" or kind == "or":
        return pattern[1]
    if kind == "have":
        return pattern[2:]
    if kind in PART_LAST:
        return pattern[-1:]
    return ()


def groups_in(pattern):
    """How many groups a pattern has."""
    own = 1 if pattern[0] == "group" else 0
    return own + sum([groups_in(part) for part in parts_of(pattern)])


def is_plain(pattern):
    """Whether the first way can be found with sets of states."""
    if pattern[0] in NOT_PLAIN:
        return False
    if pattern[0] == "times" and pattern[3] == "keep":
        return False
    return all([is_plain(part) for part in parts_of(pattern)])


def spans(pattern):
    """The least and the most signs that a pattern takes; None is no most."""
    kind = pattern[0]
    if kind in ONE_SIGN:
        return (1, 1)
    if kind in NOTHING_TAKEN:
        return (0, 0)
    if kind == "again":
        return (0, None)
    if kind == "times":
        return times_spans(pattern[1], pattern[2], spans(pattern[4]))
    inner = [spans(part) for part in parts_of(pattern)]
    leasts = [pair[0] for pair in inner]
    mosts = [pair[1] for pair in inner]
    if kind == "row":
        return (sum(leasts), None if None in mosts else sum(mosts))
    # once and group have one part, so that its spans are their own here.
    return (min(leasts), None if None in mosts else max(mosts))


def times_spans(low, high, inner):
    """The spans of a times, by those of its part."""
    least = inner[0]
    most = inner[1]
    if most == 0:
        return (0, 0)
    if high is None or most is None:
        return (low * least, None)
    return (low * least, high * most)
