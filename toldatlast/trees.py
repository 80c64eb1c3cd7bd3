"""Trees of questions whether a step fails, by which each lot comes to what is told at last."""

from toldatlast.rows import row_steps
from toldatlast.runs import Run, told_anew


def ordered_tree(program):
    """Return the tree that asks steps in ascending order, and none on which nothing hangs."""
    return ordered_row_tree(program.row, None)


def ordered_row_tree(row, handled):
    """Return the ordered tree of a row that is run while the error with a chain, or none, is being handled."""
    return ordered_rest(row, handled, row_steps(row), {})


def ordered_rest(row, handled, steps, answers):
    """Return the ordered tree of a row in which only some steps are still without an answer."""
    out = Run(row, handled, answers).out
    if out[0] != "asks":
        return ("end", told_anew(out))
    step = steps[0]
    fails = ordered_rest(row, handled, steps[1:], {**answers, step: True})
    holds = ordered_rest(row, handled, steps[1:], {**answers, step: False})
    if fails == holds:
        return fails
    return ("ask", step, fails, holds)


def tree(program):
    """Return the tree that asks each step where it is run first."""
    return tree_rest(program.row, {})


def tree_rest(row, answers):
    """Return the tree of a row of which some steps have their answers."""
    out = Run(row, None, answers).out
    if out[0] != "asks":
        return ("end", told_anew(out))
    step = out[1]
    return ("ask", step, tree_rest(row, {**answers, step: True}), tree_rest(row, {**answers, step: False}))


def walk(told, lot):
    """Return what is told at the end of a tree to which a lot leads."""
    while told[0] == "ask":
        told = told[2] if told[1] in lot else told[3]
    return copied_told(told[1])


def copied_told(told):
    """Return a copy of what is told at last that shares no list with it."""
    if told[0] == "error":
        return ("error", list(told[1]))
    return told


def judge(program, told):
    """Tell whether a tree leads each lot to what a program tells at last, and asks only its steps, none twice."""
    return judge_rest(program.row, program.steps, told, {})


def judge_rest(row, steps, told, answers):
    """Judge what is left of a tree behind some answers; `steps` are those that may still be asked."""
    if told[0] == "end":
        return ends_alike(row, told[1], answers)
    step = told[1]
    if step not in steps:
        return False
    rest = [name for name in steps if name != step]
    return (judge_rest(row, rest, told[2], {**answers, step: True})
            and judge_rest(row, rest, told[3], {**answers, step: False}))


def ends_alike(row, told, answers):
    """Tell whether a row tells this at last for all lots that agree with some answers."""
    out = Run(row, None, answers).out
    if out[0] != "asks":
        return told_anew(out) == told
    step = out[1]
    return (ends_alike(row, told, {**answers, step: True})
            and ends_alike(row, told, {**answers, step: False}))


def leaves(told):
    """Return the number of the ends of a tree."""
    if told[0] == "end":
        return 1
    return leaves(told[2]) + leaves(told[3])
