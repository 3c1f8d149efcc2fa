"""Plans of asks: how deep they must be for some grids, these told by the bits of their numbers."""


class Plans:
    """The bits of the grids that answer each ask with alike, and of those for each leaf; depths already sought."""

    def __init__(self, splits, leaves):
        self.splits = splits
        self.leaves = leaves
        self.failing = {}
        self.reached = {}


def plans_for(splits, leaves):
    """The Plans of asks, pairs of one and its bits, for leaves: lots of grids within each of which nothing is asked.

    Of asks that part all grids alike the first is kept.
    """
    lot = sum(leaves)
    firsts = {}
    for ask, bits in splits:
        firsts.setdefault(min(bits, lot & ~bits), (ask, bits))
    return Plans(list(firsts.values()), leaves)


def leaf_of(plans, lot):
    """The number of the leaf that has all these grids, None if none has."""
    for number, leaf in enumerate(plans.leaves):
        if lot & ~leaf == 0:
            return number
    return None


def can_plan(plans, lot, depth):
    """Whether some plan for these grids is no deeper."""
    if leaf_of(plans, lot) is not None:
        return depth >= 0
    if depth < 1 or _many_leaves(plans, lot) > 1 << depth or depth <= plans.failing.get(lot, 0):
        return False
    if lot in plans.reached and depth >= plans.reached[lot]:
        return True
    if first_ask(plans, lot, depth) is None:
        plans.failing[lot] = depth
        return False
    plans.reached[lot] = depth
    return True


def _many_leaves(plans, lot):
    """How many leaves have some of these grids."""
    return len([leaf for leaf in plans.leaves if lot & leaf])


def first_ask(plans, lot, depth):
    """The first ask, with its bits, with which a plan for these grids that is no deeper can begin; None for none."""
    for ask, bits in plans.splits:
        yes, no = lot & bits, lot & ~bits
        if yes and no and can_plan(plans, yes, depth - 1) and can_plan(plans, no, depth - 1):
            return (ask, bits)
    return None


def least_depth(plans, lot, most):
    """The least depth of a plan for these grids, None if each is deeper than most."""
    for depth in range(most + 1):
        if can_plan(plans, lot, depth):
            return depth
    return None


def plan_within(plans, lot, depth, leaves):
    """A plan for these grids that is no deeper, with these values as leaves; there must be one."""
    number = leaf_of(plans, lot)
    if number is not None:
        return leaves[number]
    ask, bits = first_ask(plans, lot, depth)
    yes = plan_within(plans, lot & bits, depth - 1, leaves)
    return (ask, yes, plan_within(plans, lot & ~bits, depth - 1, leaves))
