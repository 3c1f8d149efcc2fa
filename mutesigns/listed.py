"""All grids that keep a book of few signs, listed by their bits."""

from mutesigns.checks import SIDES
from mutesigns.grids import Grid
from mutesigns.masks import bits_told, kept_masks, lines_in, pair_bits
from mutesigns.states import Board


class Listed:
    """A book and the bits of all grids that keep it, in the order in which these are numbered."""

    def __init__(self, book):
        self.board = Board(book)
        self.bits = pair_bits(len(book.signs))
        self.masks = kept_masks(self.board, self.bits)

    def bits_for(self, sayings):
        """The pair of the bits that sayings of its signs tell to be set, and of those that they tell not to be."""
        return bits_told(self.bits, [self.board.by_numbers(saying) for saying in sayings])


def ask_bit(listed, ask):
    """The bit that tells whether a grid answers an ask (side, one, other) with alike."""
    side, one, other = ask
    return listed.bits[(SIDES.index(side), listed.board.numbers[one], listed.board.numbers[other])]


def bits_of_grid(board, bits, grid):
    """The bits that tell a grid of the signs of the board."""
    alike, _ = bits_told(bits, [board.by_numbers(saying) for saying in grid.sayings()])
    return alike


def grid_listed(listed, mask):
    """The Grid that these bits tell."""
    columns, rows = [lines_in(mask, listed.bits, side, len(listed.board.signs)) for side in range(2)]
    return Grid(listed.board.signs, rows, columns)
