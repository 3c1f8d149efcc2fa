"""What stands, told by numbers: signs and sides by their places, lots of signs by the bits of their numbers."""

from mutesigns.checks import SIDES
from mutesigns.grids import Grid, numbered
from mutesigns.standing import standing


class Board:
    """A book by numbers: a saying is (side, one, other, alike), a bound stands at the number of its side."""

    def __init__(self, book):
        self.signs = book.signs
        self.numbers = {sign: number for number, sign in enumerate(book.signs)}
        self.facts = tuple([tuple([self.by_numbers(saying) for saying in fact.sayings]) for fact in book.facts])
        self.bounds = (book.most_columns, book.most_rows)

    def by_numbers(self, saying):
        """The saying by numbers."""
        return (SIDES.index(saying.side), self.numbers[saying.one], self.numbers[saying.other], saying.alike)


class State:
    """What stands: for each side and each sign the bits of those joined to it, and of those said to be apart."""

    def __init__(self, lots, aparts):
        self.lots = lots
        self.aparts = aparts


def state_of(board, book, sayings):
    """What stands with the book of this board and these sayings."""
    many = len(board.signs)
    alone = [1 << sign for sign in range(many)]
    state = State((alone, alone), ([0] * many, [0] * many))
    for saying in standing(book, sayings):
        state = state_with(state, board.by_numbers(saying))
    return state


def seen_of(book, sayings):
    """The Board of a book, what stands with it and these sayings, and what that parts."""
    board = Board(book)
    state = state_of(board, book, sayings)
    return (board, state, partings_in(state))


def state_with(state, told):
    """What stands with one saying more."""
    side, one, other, is_alike = told
    if is_alike:
        lots = state.lots[side]
        joined = lots[one] | lots[other]
        return State(_exchanged(state.lots, side, [joined if lot & joined else lot for lot in lots]), state.aparts)
    aparts = list(state.aparts[side])
    aparts[one] |= 1 << other
    aparts[other] |= 1 << one
    return State(state.lots, _exchanged(state.aparts, side, aparts))


def _exchanged(pair, side, row):
    """The pair of rows with this one for the side."""
    return (row, pair[1]) if side == 0 else (pair[0], row)


def partings_in(state):
    """For each side and each sign the bits of the signs that are parted from it there."""
    return (_parted_on(state, 0), _parted_on(state, 1))


def _parted_on(state, side):
    """For each sign the bits of the signs that are parted from it on this side."""
    lots = state.lots[side]
    met = [apart | across for apart, across in zip(state.aparts[side], state.lots[1 - side])]
    reached = [_gathered(lots, bits) for bits in met]
    return [_gathered(reached, lot) & ~lot for lot in lots]


def _gathered(rows, bits):
    """The bits of all rows whose numbers are among the bits."""
    found = 0
    for number, row in enumerate(rows):
        if has_bit(bits, number):
            found |= row
    return found


def has_bit(bits, number):
    """Whether the number is among the bits."""
    return bits >> number & 1 == 1


def bits_above(number):
    """The bits of all numbers above this one."""
    return -2 << number


def is_refuted(state, parted, told):
    """Whether what stands refutes a saying."""
    side, one, other, is_alike = told
    return has_bit(parted[side][one] if is_alike else state.lots[side][one], other)


def is_forced(state, parted, told):
    """Whether what stands joins, or parts, the two signs just as a saying tells."""
    side, one, other, is_alike = told
    return has_bit(state.lots[side][one] if is_alike else parted[side][one], other)


def parted_signs(parted, many, among):
    """The least tuple of so many ascending signs among the bits, each two of them parted; None if there is none."""
    if many == 0:
        return ()
    for sign, bits in enumerate(parted):
        if has_bit(among, sign):
            behind = parted_signs(parted, many - 1, among & bits & bits_above(sign))
            if behind is not None:
                return (sign, *behind)
    return None


def finest_grid(board, state):
    """The Grid in which just the joined signs are alike; what stands must not break."""
    return Grid(board.signs, numbered(state.lots[1]), numbered(state.lots[0]))
