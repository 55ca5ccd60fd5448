"""The bounds of a whole pattern: what lies beyond them is no pattern, so that no text is read to it."""

from seek.trees import groups_in, parts_of

MOST_PATTERNS = 60
MOST_DEEP = 8
MOST_GROUPS = 9
MOST_PARTS = 8
MOST_RUNS = 8
MOST_TURNS = 9


def keeps_bounds(pattern):
    """Whether a whole pattern keeps to every bound."""
    groups = groups_in(pattern)
    if groups > MOST_GROUPS or patterns_in(pattern) > MOST_PATTERNS or depth(pattern) > MOST_DEEP:
        return False
    return all_keep(pattern, groups)


def patterns_in(pattern):
    """How many patterns a pattern consists of, itself counted."""
    return 1 + sum([patterns_in(part) for part in parts_of(pattern)])


def depth(pattern):
    """How deep a pattern is."""
    return 1 + max([depth(part) for part in parts_of(pattern)], default=0)


def all_keep(pattern, groups):
    """Whether a pattern and all within it keep to the bounds of their kinds."""
    if not keeps(pattern, groups):
        return False
    return all([all_keep(part, groups) for part in parts_of(pattern)])


def keeps(pattern, groups):
    """Whether a pattern keeps to the bounds of its own kind; groups is how many the whole pattern has."""
    kind = pattern[0]
    if kind == "in" or kind == "out":
        return runs_keep(pattern[1])
    if kind == "row":
        return len(pattern[1]) == 0 or parts_keep(pattern[1])
    if kind == "or":
        return parts_keep(pattern[1])
    if kind == "times":
        return turns_keep(pattern[1], pattern[2])
    if kind == "again" or kind == "have":
        return 1 <= pattern[1] and pattern[1] <= groups
    return True


def runs_keep(runs):
    """Whether there are one to eight runs, none of them turned round."""
    if len(runs) < 1 or len(runs) > MOST_RUNS:
        return False
    return all([low <= high for low, high in runs])


def parts_keep(parts):
    """Whether there are two to eight parts."""
    return 2 <= len(parts) and len(parts) <= MOST_PARTS


def turns_keep(low, high):
    """Whether a times may have these two numbers."""
    if low < 0 or low > MOST_TURNS:
        return False
    if high is None:
        return True
    return 1 <= high and low <= high and high <= MOST_TURNS
