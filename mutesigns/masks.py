"""All grids of some signs, each told by bits: one for each side and each two signs, set if they are alike there."""

from mutesigns.sayings import twos_of


def pair_bits(many):
    """For each side and each two of so many signs, (side, one, other), the bit that tells whether they are alike."""
    pairs = [(side, one, other) for side in range(2) for one, other in twos_of(list(range(many)))]
    return {pair: 1 << at for at, pair in enumerate(pairs)}


def bits_told(bits, told):
    """The pair of the bits that sayings tell to be set, and of those that they tell not to be."""
    alike = 0
    apart = 0
    for side, one, other, is_alike in told:
        if is_alike:
            alike |= bits[(side, one, other)]
        else:
            apart |= bits[(side, one, other)]
    return (alike, apart)


def kept_masks(board, bits):
    """The bits of all grids that keep the book of this board, ascending by their rows, then by their columns."""
    facts = [bits_told(bits, fact) for fact in board.facts]
    columns = _masks_on(board, bits, facts, 0)
    rows = _masks_on(board, bits, facts, 1)
    half = len(bits) // 2
    found = [row | column for row in rows for column in columns if row >> half & column == 0]
    return _keeping(found, facts)


def _keeping(masks, facts):
    """Those of the masks that keep all of the facts."""
    found = masks
    for alike, apart in facts:
        found = [mask for mask in found if mask & alike or mask & apart != apart]
    return found


def _masks_on(board, bits, facts, side):
    """The bits of all columns, or rows, within their bound that keep the facts that tell of this side alone."""
    many = len(board.signs)
    pairs = [(one, other, bits[(side, one, other)]) for one, other in twos_of(list(range(many)))]
    across = sum(list(bits.values())) - sum([bit for one, other, bit in pairs])
    found = [sum([bit for one, other, bit in pairs if lines[one] == lines[other]])
             for lines in _lines_within(many, board.bounds[side])]
    return _keeping(found, [(alike, apart) for alike, apart in facts if (alike | apart) & across == 0])


def _lines_within(many, bound):
    """The rows of all grids of so many signs, ascending, with no more of them than the bound lets."""
    most = many if bound is None else bound
    found = [(0,)]
    for _ in range(many - 1):
        found = [(*lines, line) for lines in found for line in range(min(max(lines) + 2, most))]
    return found


def first_mask(masks, alike, apart):
    """The first of the masks that has all bits of alike and none of apart, None if there is none."""
    for mask in masks:
        if mask & alike == alike and mask & apart == 0:
            return mask
    return None


def lines_in(mask, bits, side, many):
    """The columns, or the rows, of the grid that these bits tell."""
    lines = []
    for sign in range(many):
        mates = [lines[mate] for mate in range(sign) if mask & bits[(side, mate, sign)]]
        lines.append(mates[0] if mates else max(lines, default=-1) + 1)
    return lines
