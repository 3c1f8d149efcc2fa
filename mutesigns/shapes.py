"""How many rows and columns grids have that are told by their bits."""

from mutesigns.masks import lines_in


def shapes_in(listed):
    """The shapes of the grids listed, (rows, columns), in their order."""
    columns, rows = [_many_on(listed, side) for side in range(2)]
    return list(zip(rows, columns))


def _many_on(listed, side):
    """For each grid how many columns, or rows, it has; those alike on the side are counted once."""
    on_side = sum([bit for (told, one, other), bit in listed.bits.items() if told == side])
    known = {}
    for mask in listed.masks:
        if mask & on_side not in known:
            known[mask & on_side] = max(lines_in(mask, listed.bits, side, len(listed.board.signs))) + 1
    return [known[mask & on_side] for mask in listed.masks]
