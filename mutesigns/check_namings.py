"""Whether papers of namings are right."""

from mutesigns.check_trees import are_trees, is_grid_keeping, is_tree
from mutesigns.checks import again_at, is_just, is_list
from mutesigns.lots import all_lots, is_lot, is_part, lot_order
from mutesigns.namings import Barred, Given, Lots, Muddled, NothingGiven, Stands
from mutesigns.namings import check_named, muddles_of, namings_in, values_of
from mutesigns.sayings import Saying


def shows_stand(book, namings, value):
    """Whether any value is a Muddled of any muddle, or a right Stands or Barred of the namings together."""
    check_named(book, namings)
    return _is_standing(book, namings, value) or _is_refused(book, namings, value)


def _told_by(namings):
    """The sayings that the values given tell, none for no naming; None if the namings are muddled."""
    if len(namings) == 0:
        return ()
    return None if muddles_of(namings) else values_of(namings).sayings()


def _is_standing(book, namings, value):
    """Whether any value is a right Stands of these namings, perhaps of none."""
    told = _told_by(namings)
    return told is not None and type(value) is Stands and is_grid_keeping(book, told, value.grid)


def _is_refused(book, namings, value):
    """Whether any value is a Muddled of any muddle, or a right Barred, of these namings, perhaps of none."""
    if type(value) is Muddled:
        return any([is_just(value.by, muddle) for muddle in muddles_of(namings)])
    told = _told_by(namings)
    return told is not None and type(value) is Barred and is_tree(book, told, value.tree)


def shows_given(book, namings, value):
    """Whether any value is a right NothingGiven, or a Given of any saying told; none is if the namings are muddled."""
    check_named(book, namings)
    told = _told_by(namings)
    if told is None:
        return False
    if type(value) is NothingGiven:
        return are_trees(book, [[saying.contrary()] for saying in told], value.trees)
    if type(value) is not Given or not isinstance(value.saying, Saying) or value.saying not in told:
        return False
    return is_grid_keeping(book, [value.saying.contrary()], value.grid)


def shows_lots(book, namings, value):
    """Whether any value is a right Lots, with any lots that do not stand in barred, in any order."""
    check_named(book, namings)
    many = len(namings)
    if type(value) is not Lots or not _are_pairs(value.greatest, many) or not _are_pairs(value.barred, many):
        return False
    if not all([_is_standing(book, namings_in(namings, lot), Stands(grid)) for lot, grid in value.greatest]):
        return False
    if not all([_is_refused(book, namings_in(namings, lot), paper) for lot, paper in value.barred]):
        return False
    greatest = [lot for lot, grid in value.greatest]
    return _are_greatest(greatest) and _are_all_met(greatest, [lot for lot, paper in value.barred], many)


def _are_pairs(value, many):
    """Whether it is a list of pairs of a lot of so many namings and one thing more."""
    return is_list(value) and all([is_list(pair) and len(pair) == 2 and is_lot(pair[0], many) for pair in value])


def _are_greatest(lots):
    """Whether the lots are in order, each once, none a part of another one."""
    if lots != sorted(lots, key=lot_order) or again_at(lots) is not None:
        return False
    return not any([lot != whole and is_part(lot, whole) for lot in lots for whole in lots])


def _are_all_met(greatest, barred, many):
    """Whether each lot of so many namings is part of one in greatest, or has one in barred as a part."""
    return all([any([is_part(lot, whole) for whole in greatest]) or any([is_part(part, lot) for part in barred])
                for lot in all_lots(many)])
