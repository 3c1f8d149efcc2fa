"""Which signs chains of sayings join."""

from mutesigns.checks import check_side
from mutesigns.papers import Denial, Paper
from mutesigns.standing import check_asked_two, check_standing, joined_lots, lot_with, standing


class Chain(Paper):
    """Signs, each two neighbours of which are said to be alike on a side."""

    def __init__(self, signs):
        super().__init__("chain", signs)
        self.signs = self.parts[0]


class NoChain(Denial):
    """Signs out of which no chain leads on a side."""

    def __init__(self, signs):
        super().__init__("nochain", signs)
        self.signs = self.parts[0]


def lots_of(book, sayings, side):
    """The joined lots of a side."""
    check_standing(book, sayings)
    check_side(side)
    return joined_lots(book.signs, standing(book, sayings), side)


def chain_of(book, sayings, side, one, other):
    """The least of the shortest Chains from one to other, or the NoChain of the joined lot of one."""
    check_asked_two(book, sayings, side, one, other)
    told = standing(book, sayings)
    lot = lot_with(joined_lots(book.signs, told, side), one)
    if other not in lot:
        return NoChain(lot)
    links = _links(lot, told, side)
    steps = _steps_to(other, links)
    walk = [one]
    while walk[-1] != other:
        walk.append(min([sign for sign in links[walk[-1]] if steps[sign] < steps[walk[-1]]]))
    return Chain(walk)


def _links(signs, told, side):
    """For each of the signs those that it is said to be alike with on the side."""
    links = {sign: [] for sign in signs}
    for saying in told:
        if saying.side == side and saying.alike and saying.one in links:
            links[saying.one].append(saying.other)
            links[saying.other].append(saying.one)
    return links


def _steps_to(goal, links):
    """For each sign how many steps from sign to sign the shortest way to the goal has."""
    steps = {goal: 0}
    edge = [goal]
    while edge:
        reached = [sign for ahead in edge for sign in links[ahead] if sign not in steps]
        many = steps[edge[0]] + 1
        for sign in reached:
            steps[sign] = many
        edge = reached
    return steps
