"""Patterns as rows, and what the rows of one sign take."""

ITSELF = ("sign", "any", "in", "out", "begin", "end", "again")
LAST_ROWS = {"once": "kept", "ahead": "peeked", "behind": "peeked", "notahead": "barred", "notbehind": "barred"}
LEANING = ("behind", "notbehind")


def coded(pattern):
    """The rows of a whole pattern."""
    rows = []
    put(rows, pattern)
    rows.append(("found",))
    return tuple(rows)


def put(rows, pattern):
    """Puts the rows of a pattern behind those that are there."""
    kind = pattern[0]
    if kind in ITSELF:
        rows.append(pattern)
    elif kind == "row":
        for part in pattern[1]:
            put(rows, part)
    elif kind == "or":
        put_or(rows, pattern[1])
    elif kind == "times":
        put_times(rows, pattern[1], pattern[2], pattern[3], pattern[4])
    elif kind == "group":
        rows.append(("open",))
        put(rows, pattern[2])
        rows.append(("close", pattern[1]))
    elif kind == "have":
        put_have(rows, pattern[1], pattern[2], pattern[3])
    else:
        put_look(rows, kind, pattern[1])


def hold_place(rows):
    """The place of a row that can be told only when those behind it are there."""
    rows.append(())
    return len(rows) - 1


def put_or(rows, branches):
    """Puts the rows of an or."""
    goes = []
    for branch in branches[:-1]:
        tried = hold_place(rows)
        put(rows, branch)
        goes.append(hold_place(rows))
        rows[tried] = ("try", len(rows))
    put(rows, branches[-1])
    for place in goes:
        rows[place] = ("go", len(rows))


def put_times(rows, low, high, how, part):
    """Puts the rows of a times."""
    if how == "keep":
        rows.append(("once",))
        put_times(rows, low, high, "much", part)
        rows.append(("kept",))
        return
    rows.append(("turns",))
    turn = hold_place(rows)
    put(rows, part)
    rows.append(("next", low, turn))
    rows[turn] = ("turn", low, high, how, len(rows))


def put_have(rows, number, yes, no):
    """Puts the rows of a have."""
    asked = hold_place(rows)
    put(rows, yes)
    gone = hold_place(rows)
    rows[asked] = ("have", number, len(rows))
    put(rows, no)
    rows[gone] = ("go", len(rows))


def put_look(rows, kind, part):
    """Puts the rows of a once or of a look."""
    first = hold_place(rows)
    if kind in LEANING:
        rows.append(("lean",))
    put(rows, part)
    if kind in LEANING:
        rows.append(("here",))
    rows.append((LAST_ROWS[kind],))
    rows[first] = ("bar", len(rows)) if LAST_ROWS[kind] == "barred" else ("once",)


def takes_sign(row, text, at):
    """Whether a sign stands at a place of the text and a row of one sign takes it."""
    if at >= len(text):
        return False
    kind = row[0]
    if kind == "sign":
        return row[1] == text[at]
    if kind == "any":
        return True
    return lies_in(row[1], text[at]) == (kind == "in")


def lies_in(runs, sign):
    """Whether a sign lies in some run."""
    for low, high in runs:
        if low <= sign and sign <= high:
            return True
    return False


def with_entry(groups, number, begin, end):
    """The groups, with these two places as the entry of one of them."""
    return groups[:number - 1] + ((begin, end),) + groups[number:]
