"""Runs: what goes on behind a row, for steps of which it is known whether they fail."""

from itertools import combinations

ENDED = ("ended",)
LEFT = ("left",)
# The number of each error that no step raised.
NO_STEP = -1


class Run:
    """A row that is run up to its end, or up to the first step of which no answer tells whether it fails.

    `out` is what goes on behind the row: ENDED, LEFT, ("error", chain) or ("asks", step, handled), with the chain
    of the error that is being handled there, or None. `ran` has the names of the steps that were run, in order.
    A chain is a tuple, so that one chain may be part of many; its links are tuples (word, name, number). What a
    step raises has the number at which the step stands in `ran`, so each error of a step is told from all others.
    `over` has the numbers of the errors that are over.
    """

    def __init__(self, row, handled, answers):
        self.answers = answers
        self.ran = []
        self.over = []
        self.out = self.run_row(row, handled)

    def hidden(self):
        """Return the names of the steps that are hidden by a run up to its end, once for each hidden error."""
        kept = self.over + (numbers_of(self.out[1]) if self.out[0] == "error" else [])
        return [name for number, name in enumerate(self.ran) if self.answers[name] and number not in kept]

    def run_row(self, row, handled):
        """Run a row while the error with the chain `handled`, or none, is being handled."""
        for statement in row:
            out = self.run_statement(statement, handled)
            if out != ENDED:
                return out
        return ENDED

    def run_statement(self, statement, handled):
        """Run a statement, and return what goes on behind it."""
        word = statement[0]
        if word == "guard":
            return self.run_guard(statement, handled)
        if word == "step":
            return self.run_step(statement[1], handled)
        if word == "leave":
            return LEFT
        if word == "again":
            return ("error", handled)
        return ("error", chain_of(word, statement[1], NO_STEP, handled))

    def run_step(self, name, handled):
        """Run a step, or ask for it."""
        if name not in self.answers:
            return ("asks", name, handled)
        self.ran.append(name)
        if self.answers[name]:
            return ("error", chain_of("step", name, len(self.ran) - 1, handled))
        return ENDED

    def run_guard(self, guard, handled):
        """Run the body of a guard, a handler if there is one for its error, and the last row."""
        _, body, handlers, last = guard
        out = self.run_row(body, handled)
        if out[0] == "error":
            out = self.run_handlers(handlers, out, handled)
        if out[0] == "asks":
            return out
        under_way = out[1] if out[0] == "error" else handled
        behind = self.run_row(last, under_way)
        return out if behind == ENDED else behind

    def run_handlers(self, handlers, out, handled):
        """Run the row of the first handler that has an error's name; without one the error goes on."""
        chain = out[1]
        for names, row in handlers:
            if names is None or chain[0][1] in names:
                behind = self.run_row(row, chain)
                if behind == ENDED:
                    self.get_over(chain, handled)
                return behind
        return out

    def get_over(self, chain, handled):
        """Note that the errors of a chain are over, but for those that are still being handled."""
        # A chain of the body has the chain that is handled ahead of the guard as a whole, or, behind a `hide`,
        # nothing of it and of those that are handled further out; so what is handled further out needs no look.
        still = numbers_of(handled) if handled is not None else []
        self.over.extend([number for number in numbers_of(chain) if number not in still])


def numbers_of(chain):
    """Return the numbers of the errors of a chain."""
    return [number for word, name, number in chain]


def chain_of(word, name, number, handled):
    """Return the chain of the error that a statement raises while another one, or none, is being handled."""
    beginning = (("told", name, number),)
    if handled is None or word == "hide":
        return beginning
    link = "from" if word == "from" else "during"
    return beginning + ((link,) + handled[0][1:],) + handled[1:]


def told_anew(out):
    """Return what is told at last behind a run up to its end, with a new list if it has a chain."""
    if out[0] == "error":
        return ("error", chain_anew(out[1]))
    return out


def chain_anew(chain):
    """Return a chain as it is told: a new list of words and names."""
    return [(word, name) for word, name, number in chain]


def run_of_lot(row, steps, lot):
    """Return the run, up to its end, of a row with some steps of which those of a lot fail."""
    return Run(row, None, {step: step in lot for step in steps})


def all_runs(row, answers):
    """Return the runs, each up to its end, to which the lots that agree with some answers lead."""
    run = Run(row, None, answers)
    if run.out[0] != "asks":
        return [run]
    step = run.out[1]
    return all_runs(row, {**answers, step: True}) + all_runs(row, {**answers, step: False})


def all_choices(things):
    """Return all lists of some of several ascending things, by their number, then as lists."""
    return [list(some) for size in range(len(things) + 1) for some in combinations(things, size)]
