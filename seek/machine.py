"""The machine: it goes through rows, and tells the ways of their pattern one by one."""

from seek.codes import takes_sign, with_entry

# A state is (the row's place, the text's place, the groups, what is held). What is held is None, or the last
# pair and all below it: (first number, second number, what is held below); so a choice shares it without a copy.


def do_sign(machine, row):
    """One sign."""
    if takes_sign(row, machine.text, machine.at):
        machine.at += 1
    else:
        machine.go_back()


def do_begin(machine, row):
    """The text's place 0 alone."""
    if machine.at != 0:
        machine.go_back()


def do_end(machine, row):
    """The text's last place alone."""
    if machine.at != len(machine.text):
        machine.go_back()


def do_again(machine, row):
    """What a group took last, once more."""
    entry = machine.entry(row[1])
    if entry is None:
        machine.go_back()
        return
    end = machine.at + entry[1] - entry[0]
    if machine.text[machine.at:end] == machine.text[entry[0]:entry[1]]:
        machine.at = end
    else:
        machine.go_back()


def do_try(machine, row):
    """The branch behind is kept as a choice."""
    machine.choices.append((row[1], machine.at, machine.groups, machine.held))


def do_go(machine, row):
    """On at another row."""
    machine.row = row[1]


def do_have(machine, row):
    """On at the rows of no, if the group has no entry."""
    if machine.entry(row[1]) is None:
        machine.row = row[2]


def do_hold(machine, row):
    """Turns and open: no turn yet, from this place on."""
    machine.hold(0)


def do_close(machine, row):
    """A group stood from where it was opened up to here."""
    pair = machine.let_go()
    machine.groups = with_entry(machine.groups, row[1], pair[1], machine.at)


def do_turn(machine, row):
    """On with one turn more, or behind all turns."""
    turns = machine.held[0]
    below = machine.held[2]
    going = (machine.row, machine.at, machine.groups, (turns, machine.at, below))
    stopping = (row[4], machine.at, machine.groups, below)
    may_go = row[2] is None or turns < row[2]
    may_stop = turns >= row[1]
    if may_go and may_stop:
        little = row[3] == "little"
        machine.choices.append(going if little else stopping)
        machine.enter(stopping if little else going)
    elif may_go:
        machine.enter(going)
    elif may_stop:
        machine.enter(stopping)
    else:
        machine.go_back()


def do_next(machine, row):
    """Behind a turn: back to where the turns are counted, unless a turn that wasn't needed took nothing."""
    pair = machine.let_go()
    if pair[0] >= row[1] and machine.at == pair[1]:
        machine.go_back()
    else:
        machine.held = (pair[0] + 1, pair[1], pair[2])
        machine.row = row[2]


def do_once(machine, row):
    """Holds how many choices are to stay behind the part."""
    machine.hold(len(machine.choices))


def do_kept(machine, row):
    """What is left of the part's ways is given up."""
    machine.drop_choices(machine.let_go()[0])


def do_peeked(machine, row):
    """As kept, and back at the place where the part was begun."""
    pair = machine.let_go()
    machine.drop_choices(pair[0])
    machine.at = pair[1]


def do_bar(machine, row):
    """As once, with a choice below for a part that has no way."""
    held = machine.held
    # The pair leaves this choice out, so that barred gives it up too.
    machine.hold(len(machine.choices))
    machine.choices.append((row[1], machine.at, machine.groups, held))


def do_barred(machine, row):
    """The part has a way, so that there is none here."""
    machine.drop_choices(machine.let_go()[0])
    machine.go_back()


def do_lean(machine, row):
    """The same from one place less is kept as a choice."""
    if machine.at > 0:
        machine.choices.append((machine.row - 1, machine.at - 1, machine.groups, machine.held))


def do_here(machine, row):
    """The part has to end where the look stands."""
    if machine.at != machine.held[1]:
        machine.go_back()


def do_found(machine, row):
    """A way."""
    machine.found = True


DOINGS = {
    "sign": do_sign, "any": do_sign, "in": do_sign, "out": do_sign, "begin": do_begin, "end": do_end,
    "again": do_again, "try": do_try, "go": do_go, "have": do_have, "turns": do_hold, "open": do_hold,
    "close": do_close, "turn": do_turn, "next": do_next, "once": do_once, "kept": do_kept, "peeked": do_peeked,
    "bar": do_bar, "barred": do_barred, "lean": do_lean, "here": do_here, "found": do_found,
}


class Machine:
    """A machine for the rows of a whole pattern, beginning at a place of the text."""

    def __init__(self, rows, text, at):
        self.rows = rows
        self.text = text
        self.row = 0
        self.at = at
        self.groups = (None,) * max([row[1] for row in rows if row[0] == "close"], default=0)
        self.held = None
        self.choices = []
        self.made = 0
        self.found = False
        self.ended = False

    def way(self, most):
        """The next way, none, or over behind so many moves."""
        if self.found:
            self.found = False
            self.go_back()
        last = self.made + most
        while not self.ended and self.made < last:
            self.move()
            if self.found:
                return ("way", self.at, self.groups)
        return ("none",) if self.ended else ("over",)

    def moves(self):
        """How many moves were made since it began."""
        return self.made

    def move(self):
        """Does one row."""
        row = self.rows[self.row]
        self.row += 1
        self.made += 1
        DOINGS[row[0]](self, row)

    def enter(self, state):
        """Goes on from a state."""
        self.row = state[0]
        self.at = state[1]
        self.groups = state[2]
        self.held = state[3]

    def go_back(self):
        """Goes on from the choice that was kept last; without one there are no more ways."""
        if len(self.choices) == 0:
            self.ended = True
        else:
            self.enter(self.choices.pop())

    def drop_choices(self, size):
        """Only so many choices stay, those that were kept first."""
        while len(self.choices) > size:
            self.choices.pop()

    def hold(self, number):
        """Holds a pair of a number and the text's place."""
        self.held = (number, self.at, self.held)

    def let_go(self):
        """The last pair, held no more."""
        pair = self.held
        self.held = pair[2]
        return pair

    def entry(self, number):
        """The entry of a group."""
        return self.groups[number - 1] if number <= len(self.groups) else None
