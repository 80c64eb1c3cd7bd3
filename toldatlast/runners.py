"""Runners: runs of a program that ask step by step whether it fails."""

from toldatlast.errors import NothingToUndo, RunEnded
from toldatlast.runs import Run, all_runs, chain_anew, told_anew


class Runner:
    """A run of a program up to the first step of which it was not told whether it fails."""

    def __init__(self, program):
        self._program = program
        self._go_on({})

    @property
    def asks(self):
        """The step that is run next and was not answered yet, None at the end of the run."""
        out = self._run.out
        return out[1] if out[0] == "asks" else None

    @property
    def told(self):
        """What is told at last, None ahead of the end of the run."""
        out = self._run.out
        return None if out[0] == "asks" else told_anew(out)

    @property
    def lot(self):
        """The steps that were told to fail, ascending."""
        return sorted([step for step in self._answers if self._answers[step]])

    @property
    def done(self):
        """The names of the steps that were run up to now, in order, as often as they were."""
        return list(self._run.ran)

    def __call__(self, fails):
        """Tell whether the step that is asked fails, and go on to the next one."""
        self._go_on(self._answers_with(fails))

    def handled(self):
        """Return the chain of the error that is being handled while the asked step is run, None if there is none."""
        out = self._run.out
        if out[0] != "asks" or out[2] is None:
            return None
        return chain_anew(out[2])

    def undo(self):
        """Take back the last answer."""
        if not self._answers:
            raise NothingToUndo(0)
        self._go_on(dict(list(self._answers.items())[:-1]))

    def __len__(self):
        return len(self._answers)

    def __eq__(self, other):
        return (isinstance(other, Runner) and not isinstance(other, CarefulRunner)
                and self._program == other._program and self._answers == other._answers)

    def _answers_with(self, fails):
        """Return all answers, with one for the step that is asked; the order is that in which they were given."""
        step = self.asks
        if step is None:
            raise RunEnded(0)
        return {**self._answers, step: fails}

    def _go_on(self, answers):
        """Run the program with some answers."""
        self._answers = answers
        self._run = Run(self._program.row, None, answers)


class CarefulRunner(Runner):
    """A runner that refuses answers by which some step would be hidden in any case."""

    def __init__(self, program):
        super().__init__(program)

    def __call__(self, fails):
        """Tell whether the step that is asked fails, if some lot that agrees with all answers hides no step."""
        answers = self._answers_with(fails)
        if all([run.hidden() for run in all_runs(self._program.row, answers)]):
            raise RunEnded(self.asks)
        self._go_on(answers)

    def __eq__(self, other):
        return (isinstance(other, CarefulRunner)
                and self._program == other._program and self._answers == other._answers)
