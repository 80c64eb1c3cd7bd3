"""Hidden steps: the lots that lose an error, the chains that are told, and the changes by which nothing is lost."""

from toldatlast.errors import UnknownPlace, UnknownStep
from toldatlast.programs import Program
from toldatlast.rows import all_places, row_around
from toldatlast.runs import all_choices, all_runs, chain_anew, run_of_lot


def first_hidden(program, name):
    """Return the first lot by which a step is hidden, None if there is none."""
    row = program.row
    steps = program.steps
    if name not in steps:
        raise UnknownStep(name)
    for lot in all_choices(steps):
        if name in run_of_lot(row, steps, lot).hidden():
            return lot
    return None


def hidden_steps(program):
    """Return the steps that some lot hides, ascending."""
    return sorted({name for run in all_runs(program.row, {}) for name in run.hidden()})


def chains(program):
    """Return all chains that are told at last for some lot, ascending, each once."""
    outs = [run.out for run in all_runs(program.row, {})]
    return [list(chain) for chain in sorted({tuple(chain_anew(out[1])) for out in outs if out[0] == "error"})]


def mends(program):
    """Return all least sets of changes by which no step is hidden by any lot, by their number, then as lists."""
    hides = places_of(program, "hide")
    helpful = []
    for leaves in all_choices(places_of(program, "leave")):
        # A `raise` in place of a `hide` never loses an error, so if not even all of them help, none of them do.
        if hides_nothing(with_changes(program, leaves + hides)):
            helpful.append(sorted(leaves + needed_hides(program, leaves, hides)))
    least = sorted([(len(places), places) for places in helpful if is_least(places, helpful)])
    return [[list(place) for place in places] for size, places in least]


def needed_hides(program, leaves, hides):
    """Return the hides that must become raises, so that no step is hidden once some leaves are taken out."""
    # There is just one least set of them, so each one belongs to it without which all others do not help.
    return [hide for hide in hides
            if not hides_nothing(with_changes(program, leaves + [other for other in hides if other != hide]))]


def is_least(places, helpful):
    """Tell whether no other one of some sets of places has only places of this one."""
    return not any([other != places and all([place in places for place in other]) for other in helpful])


def hides_nothing(program):
    """Tell whether a program hides no step by any lot."""
    return all([not run.hidden() for run in all_runs(program.row, {})])


def places_of(program, word):
    """Return the places of the statements with a first text, ascending."""
    return [place for place in all_places(program.row) if program.at(place)[0] == word]


def with_changes(program, places):
    """Return a program in which some hides are raises, and some leaves are taken out."""
    row = program.row
    for place in places:
        around = row_around(row, place)
        if around is None or around[place[-1]][0] not in ("hide", "leave"):
            raise UnknownPlace(list(place))
    # From the last place to the first one, so that what is taken out does not move what is still to be changed.
    for place in reversed(sorted({tuple(place) for place in places})):
        change_statement(row_around(row, place), place[-1])
    return Program(row)


def change_statement(around, at):
    """Take out the `leave` at an index of a row, or let the `hide` there become a `raise`."""
    if around[at][0] == "leave":
        del around[at]
    else:
        around[at] = ("raise", around[at][1])
