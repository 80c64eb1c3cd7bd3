"""Programs: lists of statements that never change."""

from toldatlast.errors import UnknownPlace, UnknownStep
from toldatlast.rows import all_statements, check_row, copied_row, copied_statement, row_around, row_names, row_steps
from toldatlast.runs import run_of_lot, told_anew


class Program:
    """A row of statements, with what can be asked of it."""

    def __init__(self, row):
        check_row(row, [], False)
        self._row = copied_row(row)
        self._steps = row_steps(row)
        self._names = row_names(row)

    @property
    def row(self):
        """The statements."""
        return copied_row(self._row)

    @property
    def steps(self):
        """The names of the steps, ascending, each once."""
        return list(self._steps)

    @property
    def names(self):
        """All names, ascending, each once."""
        return list(self._names)

    def tells(self, lot):
        """Return what is told at last if the steps of a lot fail."""
        return told_anew(self._run_with(lot).out)

    def run(self, lot):
        """Return the names of the steps that are run if those of a lot fail, as often as they are run."""
        return self._run_with(lot).ran

    def at(self, place):
        """Return the statement at a place."""
        around = row_around(self._row, place)
        if around is None:
            raise UnknownPlace(list(place))
        return copied_statement(around[place[-1]])

    def without(self, place):
        """Return the program without the statement at a place."""
        row = copied_row(self._row)
        around = row_around(row, place)
        if around is None:
            raise UnknownPlace(list(place))
        del around[place[-1]]
        return Program(row)

    def __len__(self):
        return len(all_statements(self._row))

    def __eq__(self, other):
        return isinstance(other, Program) and self._row == other._row

    def _run_with(self, lot):
        """Return the whole run in which just the steps of a lot fail."""
        for name in lot:
            if name not in self._steps:
                raise UnknownStep(name)
        return run_of_lot(self._row, self._steps, lot)
