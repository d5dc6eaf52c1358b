"""Routines: what a call does on its way down, where it turns, and on its way up."""

from lettertrees.reading import read_blocks
from lettertrees.statements import check_blocks, frozen, names_in_block
from lettertrees.writing import routine_lines


class Routine:
    """Three blocks of statements."""

    def __init__(self, down, turn, up):
        check_blocks(down, turn, up)
        self.down = frozen(down)
        self.turn = frozen(turn)
        self.up = frozen(up)

    @classmethod
    def read(cls, text):
        """The routine with this text."""
        down, turn, up = read_blocks(text)
        return cls(down, turn, up)

    def __eq__(self, other):
        if not isinstance(other, Routine):
            return False
        return self.down == other.down and self.turn == other.turn and self.up == other.up

    def names(self):
        """Those of p, x and y that it names."""
        return tuple(sorted(set(names_in_block(self.down + self.turn + self.up))))

    def text(self):
        """The routine as lines."""
        return "\n".join(routine_lines(self.down, self.turn, self.up))
