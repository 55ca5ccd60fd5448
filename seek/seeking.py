"""Finds of a pattern in a text, and what is made of them."""

from seek.codes import coded
from seek.errors import NoForm, Over
from seek.machine import Machine
from seek.trees import groups_in

DIGITS = "0123456789"


def first_find(pattern, text, start, most):
    """The first find from a place on, or None. Refuses with Over."""
    return Seeker(pattern, text, most).first_from(start)


def all_finds(pattern, text, most):
    """The list of all finds. Refuses with Over."""
    seeker = Seeker(pattern, text, most)
    finds = []
    find = seeker.first_from(0)
    while find is not None:
        finds.append(find)
        took_nothing = find[0] == find[1]
        find = seeker.first_from(find[1] + 1 if took_nothing else find[1])
    return finds


def formed(form, text, find):
    """The text of a form, for a find of the text. Refuses with NoForm."""
    return filled(form_pieces(form, len(find[2])), text, find)


def parted(pattern, text, most):
    """The texts ahead of the first find, between each two, and behind the last one. Refuses with Over."""
    return texts_around(text, all_finds(pattern, text, most))


def replaced(pattern, text, form, most):
    """The text with the form's text in the place of each find. Refuses with NoForm, or with Over."""
    # The form is read ahead of the first move, so that a wrong one is refused whatever is found.
    pieces = form_pieces(form, groups_in(pattern))
    finds = all_finds(pattern, text, most)
    around = texts_around(text, finds)
    made = [around[0]]
    for find, behind in zip(finds, around[1:]):
        made.append(filled(pieces, text, find))
        made.append(behind)
    return "".join(made)


def texts_around(text, finds):
    """The texts ahead of, between and behind finds that stand in their order."""
    texts = []
    end = 0
    for find in finds:
        texts.append(text[end:find[0]])
        end = find[1]
    texts.append(text[end:])
    return texts


def form_pieces(form, groups):
    """The pieces of a form: texts that stand for themselves, and numbers for what a find or a group of it took."""
    pieces = []
    place = 0
    while place < len(form):
        if form[place] == "$":
            pieces.append(marked_piece(form[place + 1:place + 2], groups))
            place += 2
        else:
            pieces.append(form[place])
            place += 1
    return pieces


def marked_piece(sign, groups):
    """What a `$` with this sign behind it stands for; no sign is the form's end."""
    if sign == "$":
        return sign
    if sign == "" or sign not in DIGITS:
        raise NoForm("nothing that a $ can stand with")
    number = int(sign)
    if number > groups:
        raise NoForm("no such group")
    return number


def filled(pieces, text, find):
    """The text of a form's pieces, for a find of the text."""
    return "".join([piece if isinstance(piece, str) else taken_text(piece, text, find) for piece in pieces])


def taken_text(number, text, find):
    """What a find took, or what a group of it took last."""
    if number == 0:
        return text[find[0]:find[1]]
    entry = find[2][number - 1]
    return "" if entry is None else text[entry[0]:entry[1]]


class Seeker:
    """Machines for a pattern at places of a text, whose moves are counted together."""

    def __init__(self, pattern, text, most):
        self.rows = coded(pattern)
        self.text = text
        self.left = most

    def first_from(self, start):
        """The first find from a place on, or None."""
        for begin in range(start, len(self.text) + 1):
            find = self.find_at(begin)
            if find is not None:
                return find
        return None

    def find_at(self, begin):
        """The find of one place, or None."""
        # No machine is done without a move, so that another place asks for at least one.
        if self.left < 1:
            raise Over("no moves are left for another place")
        machine = Machine(self.rows, self.text, begin)
        answer = machine.way(self.left)
        self.left -= machine.moves()
        if answer[0] == "over":
            raise Over("no moves are left for another row")
        return (begin, answer[1], answer[2]) if answer[0] == "way" else None
