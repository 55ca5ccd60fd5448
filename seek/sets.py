"""The first way of a plain pattern, by sets of states."""

from seek.codes import coded, takes_sign, with_entry
from seek.errors import Memory
from seek.trees import groups_in, is_plain

# A state is (the row's place, how many turns there were of each times around it, how many of these times have
# taken a sign in this turn). Where an inner turn has taken one, those around it have too, so that one number tells
# it of all of them, counted from the outermost on. A thread is a state with (where the groups around it begin,
# the groups): what can still come of it hangs on its state alone.


def first_by_sets(pattern, text, at):
    """The first way of a plain pattern from a place, or None. Refuses with Memory one that isn't plain."""
    if not is_plain(pattern):
        raise Memory("a pattern that isn't plain")
    rows = coded(pattern)
    threads = [((0, (), 0), None, (None,) * groups_in(pattern))]
    first = None
    while len(threads) > 0:
        stage = Stage(rows, text, at, threads)
        stage.go_through()
        # What came as far as this place stands ahead of all ways that ended at an earlier one.
        if stage.first is not None:
            first = stage.first
        threads = stage.onward
        at += 1
    return first


def do_sign(stage, row, thread):
    """A sign that is taken is taken in each turn around it."""
    if takes_sign(row, stage.text, stage.at):
        state = thread[0]
        stage.onward.append(((state[0] + 1, state[1], len(state[1])), thread[1], thread[2]))


def do_begin(stage, row, thread):
    """The text's place 0 alone."""
    if stage.at == 0:
        stage.follow(thread, thread[0][0] + 1)


def do_end(stage, row, thread):
    """The text's last place alone."""
    if stage.at == len(stage.text):
        stage.follow(thread, thread[0][0] + 1)


def do_try(stage, row, thread):
    """This branch, then the one behind."""
    stage.follow(thread, row[1])
    stage.follow(thread, thread[0][0] + 1)


def do_go(stage, row, thread):
    """On at another row."""
    stage.follow(thread, row[1])


def do_turns(stage, row, thread):
    """No turn yet of one times more."""
    state = thread[0]
    stage.pending.append(((state[0] + 1, state[1] + (0,), state[2]), thread[1], thread[2]))


def do_turn(stage, row, thread):
    """On with one turn more, or behind all turns, in their order."""
    state = thread[0]
    counts = state[1]
    inner = len(counts) - 1
    taken = min(state[2], inner)
    onward = []
    if row[2] is None or counts[inner] < row[2]:
        onward.append(((state[0] + 1, counts, taken), thread[1], thread[2]))
    if counts[inner] >= row[1]:
        onward.append(((row[4], counts[:inner], taken), thread[1], thread[2]))
    if row[3] != "little":
        onward.reverse()
    stage.pending.extend(onward)


def do_next(stage, row, thread):
    """Behind a turn: back to where the turns are counted, unless a turn that wasn't needed took nothing."""
    state = thread[0]
    counts = state[1]
    inner = len(counts) - 1
    if counts[inner] >= row[1] and state[2] <= inner:
        return
    count = counts[inner] + 1
    if stage.rows[row[2]][2] is None:
        # Without a high, turns beyond low are all alike.
        count = min(count, row[1])
    stage.pending.append(((row[2], counts[:inner] + (count,), state[2]), thread[1], thread[2]))


def do_open(stage, row, thread):
    """A group begins here."""
    state = thread[0]
    stage.pending.append(((state[0] + 1, state[1], state[2]), (stage.at, thread[1]), thread[2]))


def do_close(stage, row, thread):
    """A group stood from where it was opened up to here."""
    state = thread[0]
    begins = thread[1]
    groups = with_entry(thread[2], row[1], begins[0], stage.at)
    stage.pending.append(((state[0] + 1, state[1], state[2]), begins[1], groups))


def do_found(stage, row, thread):
    """A way; all that is still to be gone on with stands behind it."""
    stage.first = (stage.at, thread[2])
    stage.pending.clear()


DOINGS = {
    "sign": do_sign, "any": do_sign, "in": do_sign, "out": do_sign, "begin": do_begin, "end": do_end,
    "try": do_try, "go": do_go, "turns": do_turns, "turn": do_turn, "next": do_next, "open": do_open,
    "close": do_close, "found": do_found,
}


class Stage:
    """One place of the text: the threads there, and those that take its sign."""

    def __init__(self, rows, text, at, threads):
        self.rows = rows
        self.text = text
        self.at = at
        # What stands first is gone on with first, so it has to lie on top.
        self.pending = list(reversed(threads))
        self.met = {}
        self.first = None
        self.onward = []

    def go_through(self):
        """Goes on with each state once, in the order in which they are met."""
        while len(self.pending) > 0:
            thread = self.pending.pop()
            state = thread[0]
            if state not in self.met:
                self.met[state] = True
                row = self.rows[state[0]]
                DOINGS[row[0]](self, row, thread)

    def follow(self, thread, row):
        """A thread that goes on at a row."""
        state = thread[0]
        self.pending.append(((row, state[1], state[2]), thread[1], thread[2]))
