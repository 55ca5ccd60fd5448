"""The ways of a pattern and the moves of a machine, gone through as plainly as the document tells them."""

import copy


def ways(pattern, text, i, groups):
    """The ways of a pattern from a place, in their order: pairs of an end and the groups there."""
    return globals()["ways_of_" + pattern[0]](pattern, text, i, groups)


def all_ways(pattern, text, i):
    return list(ways(pattern, text, i, (None,) * count_groups(pattern)))


def count_groups(pattern):
    if not isinstance(pattern, tuple):
        return 0
    return (pattern[:1] == ("group",)) + sum(count_groups(item) for item in pattern)


def first(generated):
    for item in generated:
        return item
    return None


def one_sign(taken):
    def ways_of_one_sign(pattern, text, i, groups):
        if i < len(text) and taken(pattern, text[i]):
            yield i + 1, groups
    return ways_of_one_sign


def within(runs, s):
    return any(s in [chr(n) for n in range(ord(low), ord(high) + 1)] for low, high in runs)


ways_of_sign = one_sign(lambda pattern, s: s == pattern[1])
ways_of_any = one_sign(lambda pattern, s: True)
ways_of_in = one_sign(lambda pattern, s: within(pattern[1], s))
ways_of_out = one_sign(lambda pattern, s: not within(pattern[1], s))


def ways_of_begin(pattern, text, i, groups):
    if i == 0:
        yield i, groups


def ways_of_end(pattern, text, i, groups):
    if i == len(text):
        yield i, groups


def ways_of_row(pattern, text, i, groups):
    if not pattern[1]:
        yield i, groups
        return
    for j, inner in ways(pattern[1][0], text, i, groups):
        yield from ways_of_row(("row", pattern[1][1:]), text, j, inner)


def ways_of_or(pattern, text, i, groups):
    for branch in pattern[1]:
        yield from ways(branch, text, i, groups)


def ways_of_times(pattern, text, i, groups):
    if pattern[3] == "keep":
        found = first(turns(pattern, text, i, groups, 0))
        if found is not None:
            yield found
    else:
        yield from turns(pattern, text, i, groups, 0)


def turns(pattern, text, j, groups, n):
    _, low, high, how, part = pattern
    if how == "little" and n >= low:
        yield j, groups
    if high is None or n < high:
        for end, inner in ways(part, text, j, groups):
            if n < low or end != j:
                yield from turns(pattern, text, end, inner, n + 1)
    if how != "little" and n >= low:
        yield j, groups


def ways_of_group(pattern, text, i, groups):
    _, k, part = pattern
    for j, inner in ways(part, text, i, groups):
        entries = list(inner)
        entries[k - 1] = (i, j)
        yield j, tuple(entries)


def ways_of_again(pattern, text, i, groups):
    entry = groups[pattern[1] - 1]
    if entry is not None:
        took = text[entry[0]:entry[1]]
        if text[i:].startswith(took):
            yield i + len(took), groups


def ways_of_have(pattern, text, i, groups):
    _, k, yes, no = pattern
    yield from ways(no if groups[k - 1] is None else yes, text, i, groups)


def ways_of_once(pattern, text, i, groups):
    found = first(ways(pattern[1], text, i, groups))
    if found is not None:
        yield found


def ways_of_ahead(pattern, text, i, groups):
    found = first(ways(pattern[1], text, i, groups))
    if found is not None:
        yield i, found[1]


def ways_of_notahead(pattern, text, i, groups):
    if first(ways(pattern[1], text, i, groups)) is None:
        yield i, groups


def leaned(part, text, i, groups):
    for place in range(i, -1, -1):
        for j, inner in ways(part, text, place, groups):
            if j == i:
                return inner
    return None


def ways_of_behind(pattern, text, i, groups):
    inner = leaned(pattern[1], text, i, groups)
    if inner is not None:
        yield i, inner


def ways_of_notbehind(pattern, text, i, groups):
    if leaned(pattern[1], text, i, groups) is None:
        yield i, groups


def machine_answers(rows, text, at):
    """What a machine tells, way by way, with its moves behind each: every choice is a copy of all there is."""
    state = {"row": 0, "at": at, "held": [], "groups": [None] * len([row for row in rows if row[0] == "close"])}
    choices = []
    moves = 0
    while state is not None:
        moves += 1
        row = rows[state["row"]]
        if row[0] == "found":
            yield ("way", state["at"], tuple(state["groups"])), moves
            state = None
        else:
            state = done(row, state, choices, text)
        if state is None and choices:
            state = choices.pop()
    yield ("none",), moves


def changed(state, **changes):
    other = copy.deepcopy(state)
    other.update(changes)
    return other


def done(row, state, choices, text):
    """The state behind one row that isn't found, or None if it goes back."""
    kind = row[0]
    at = state["at"]
    before = copy.deepcopy(state)
    onward = changed(state, row=state["row"] + 1)
    held = onward["held"]
    if kind in ("sign", "any", "in", "out", "begin", "end", "again"):
        found = first(ways(row, text, at, tuple(state["groups"])))
        return None if found is None else changed(onward, at=found[0])
    if kind == "try":
        choices.append(changed(before, row=row[1]))
    elif kind == "go":
        onward["row"] = row[1]
    elif kind in ("turns", "open"):
        held.append((0, at))
    elif kind == "close":
        onward["groups"][row[1] - 1] = (held.pop()[1], at)
    elif kind == "turn":
        n = held.pop()[0]
        both = []
        if n >= row[1]:
            both.append(changed(onward, row=row[4]))
        if row[2] is None or n < row[2]:
            both.append(changed(onward, held=held + [(n, at)]))
        if row[3] == "little":
            both.reverse()
        choices += both
        return choices.pop() if both else None
    elif kind == "next":
        n, j = held.pop()
        if n >= row[1] and at == j:
            return None
        held.append((n + 1, j))
        onward["row"] = row[2]
    elif kind == "have":
        onward["row"] = row[2] if state["groups"][row[1] - 1] is None else onward["row"]
    elif kind == "once":
        held.append((len(choices), at))
    elif kind == "bar":
        held.append((len(choices), at))
        choices.append(changed(before, row=row[1]))
    elif kind in ("kept", "peeked", "barred"):
        size, place = held.pop()
        choices[size:] = []
        onward["at"] = place if kind == "peeked" else at
        return None if kind == "barred" else onward
    elif kind == "lean":
        if at > 0:
            choices.append(changed(before, at=at - 1))
    elif kind == "here":
        return onward if at == held[-1][1] else None
    else:
        raise ValueError(kind)
    return onward
