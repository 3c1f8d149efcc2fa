"""Whether papers of answers, and of sayings that stand together or quarrel, are right."""

from mutesigns.answers import Never, Open, Sure
from mutesigns.check_trees import are_trees, is_grid_keeping, is_tree
from mutesigns.checks import is_list, is_numbers
from mutesigns.facts import as_fact, contraries_of
from mutesigns.searches import check_sought
from mutesigns.standing import check_asked
from mutesigns.together import Quarrel, Together, check_together, sayings_but


def shows_answer(book, asked, value):
    """Whether any value is a right Sure, Never or Open of a Fact, or a Saying, by the book."""
    check_asked(book, asked)
    check_sought(book)
    fact = as_fact(asked)
    if type(value) is Sure:
        return is_tree(book, contraries_of(fact), value.tree)
    if type(value) is Never:
        return are_trees(book, [[saying] for saying in fact.sayings], value.trees)
    return type(value) is Open and _is_open(book, fact, value.one, value.other)


def _is_open(book, fact, one, other):
    """Whether these are grids that keep the book, in the one of which the fact holds, in the other it does not."""
    is_one_right = is_grid_keeping(book, [], one) and one.keeps_fact(fact)
    return is_one_right and is_grid_keeping(book, contraries_of(fact), other)


def shows_together(book, sayings, value):
    """Whether any value is a right Together, or a Quarrel of any of the sayings with none to spare."""
    check_together(book, sayings)
    if type(value) is Together:
        return is_grid_keeping(book, sayings, value.grid)
    return type(value) is Quarrel and _is_quarrel(book, sayings, value)


def _is_quarrel(book, sayings, quarrel):
    """Whether the numbers ascend, the tree shows that their sayings quarrel, and the grids that none is to spare."""
    numbers, grids = quarrel.numbers, quarrel.grids
    if not is_numbers(numbers) or list(numbers) != sorted(set(numbers)):
        return False
    if not all([0 <= number < len(sayings) for number in numbers]) or not is_list(grids):
        return False
    if len(grids) != len(numbers) or not is_tree(book, [sayings[number] for number in numbers], quarrel.tree):
        return False
    return all([is_grid_keeping(book, sayings_but(sayings, numbers, number), grid)
                for number, grid in zip(numbers, grids)])
