"""Comparisons: which programs and rows tell the same at last for all lots, and which statements matter."""

from toldatlast.errors import UnknownPlace
from toldatlast.programs import Program
from toldatlast.rows import all_places, check_row, row_around, row_names
from toldatlast.runs import NO_STEP, all_choices
from toldatlast.trees import ordered_row_tree, ordered_tree, walk

# No row can have this name, so it stands for all names that rows do not have.
ELSEWHERE = ""


def exchangeable(one, other):
    """Tell whether one row may stand for another one in every program."""
    check_row(one, [], True)
    check_row(other, [], True)
    names = sorted(set(row_names(one) + row_names(other))) + [ELSEWHERE]
    return all([alike_handling(one, other, name) for name in names])


def alike_handling(one, other, name):
    """Tell whether two rows do the same for all lots while an error with a name is being handled."""
    # A row knows just the name of what is being handled. The second link cannot come from a row, so it shows
    # whether what a row raises has the handled chain behind it, or is it, or only looks like it.
    handled = (("told", name, NO_STEP), ("during", ELSEWHERE, NO_STEP))
    return ordered_row_tree(one, handled) == ordered_row_tree(other, handled)


def alike(one, other):
    """Tell whether two programs tell the same at last for all lots."""
    return ordered_tree(one) == ordered_tree(other)


def first_unlike(one, other):
    """Return the first lot for which two programs tell something else, None if there is none."""
    told_by_one = ordered_tree(one)
    told_by_other = ordered_tree(other)
    for lot in all_choices(sorted(set(one.steps + other.steps))):
        if walk(told_by_one, lot) != walk(told_by_other, lot):
            return lot
    return None


def needless(program):
    """Return the places of the statements without which, one at a time, a program tells the same."""
    return [place for place in all_places(program.row) if alike(program.without(place), program)]


def may_change_places(program, place):
    """Tell whether a program tells the same if the statement at a place and the next one change places."""
    row = program.row
    around = row_around(row, place)
    if around is None or place[-1] + 1 == len(around):
        raise UnknownPlace(list(place))
    at = place[-1]
    around[at], around[at + 1] = around[at + 1], around[at]
    return alike(program, Program(row))


def minded(program):
    """Return the steps on which what a program tells at last hangs, ascending."""
    return sorted(set(asked_steps(ordered_tree(program))))


def asked_steps(told):
    """Return the steps that a tree asks."""
    if told[0] == "end":
        return []
    return [told[1]] + asked_steps(told[2]) + asked_steps(told[3])
