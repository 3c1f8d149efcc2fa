"""Which signs hang together by ties, and the sides that ties have from one of them."""

from mutesigns.grids import Grid


def hanging_lots(ties):
    """The lots of signs that hang together, ascending tuples, ascending."""
    lots = [(sign,) for sign in ties.signs]
    for one, other in ties.pairs:
        met = [lot for lot in lots if one in lot or other in lot]
        lots = [lot for lot in lots if lot not in met] + [tuple(sorted([sign for lot in met for sign in lot]))]
    return tuple(sorted(lots))


def lot_hanging(ties, sign):
    """The lot that hangs together with this sign."""
    return [lot for lot in hanging_lots(ties) if sign in lot][0]


def do_meet(one, other):
    """Whether two ties are unlike and have a common sign."""
    return one != other and (one[0] in other or one[1] in other)


def do_turn(ties, one, other):
    """Whether the ends of two ties that meet are not beside: then they are on unlike sides of each grid."""
    ends = [sign for sign in one if sign not in other] + [sign for sign in other if sign not in one]
    return not ties.are_beside(ends[0], ends[1])


def sides_from(ties, tie):
    """For each tie that hangs together with this one whether a walk from it there turns an odd number of times."""
    turned = {tie: False}
    edge = [tie]
    while edge:
        reached = []
        for ahead in edge:
            for other in ties.pairs:
                if other not in turned and do_meet(ahead, other):
                    turned[other] = turned[ahead] != do_turn(ties, ahead, other)
                    reached.append(other)
        edge = reached
    return turned


def grid_having(ties):
    """A grid that has the ties; there must be no bar of them."""
    turned = {}
    for tie in ties.pairs:
        if tie not in turned:
            more = sides_from(ties, tie)
            turned = {**turned, **more}
    rows = _heads(ties.signs, [pair for pair in ties.pairs if not turned[pair]])
    columns = _heads(ties.signs, [pair for pair in ties.pairs if turned[pair]])
    return Grid.of(ties.signs, [(rows[sign], columns[sign]) for sign in ties.signs])


def _heads(signs, pairs):
    """For each sign the number of the first one that pairs lead to from it."""
    heads = {sign: at for at, sign in enumerate(signs)}
    for _ in signs:
        for one, other in pairs:
            heads[one] = heads[other] = min(heads[one], heads[other])
    return heads
