"""Movers: words copied from address to address, a word a turn."""

from chipbus.errors import NoMover
from chipbus.maps import size_of
from chipbus.words import is_number


class Mover:
    """So many words to move on a board; step is the source's step, by the target's."""

    def __init__(self, board, source, target, many, step=1, by=1):
        board.check_address(source)
        board.check_address(target)
        self.board = board
        self.source = source
        self.target = target
        self.many = many
        self.step = step
        self.by = by

    def turn(self):
        """Move a word and tell (source, target, word), or None where none are left."""
        if self.left() == 0:
            return None
        word = self.board.read(self.source)
        self.board.write(self.target, word)
        moved = (self.source, self.target, word)
        size = size_of(self.board.bits_of())
        self.source = (self.source + self.step) % size
        self.target = (self.target + self.by) % size
        self.many -= 1
        return moved

    def left(self):
        """How many words are left to move."""
        return max(self.many, 0)

    def places(self):
        """The tuple (source, target) of the addresses as they are now."""
        return (self.source, self.target)


def turns(movers, order):
    """Give the movers at the places of order a turn each, and tell what they tell, a list."""
    for place in order:
        if not is_number(place, len(movers) - 1):
            raise NoMover(f"no mover has the place {place}")
    return [movers[place].turn() for place in order]
