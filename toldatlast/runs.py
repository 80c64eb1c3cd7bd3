"""Runs: what goes on behind a row, for steps of which it is known whether they fail."""

ENDED = ("ended",)
LEFT = ("left",)


class Run:
    """A row that is run up to its end, or up to the first step of which no answer tells whether it fails.

    `out` is what goes on behind the row: ENDED, LEFT, ("error", chain) or ("asks", step). The chain is a tuple,
    so that one chain may be part of many. `done` has the names of the steps that were run, in order.
    """

    def __init__(self, row, handled, answers):
        self.answers = answers
        self.done = []
        self.out = self.run_row(row, handled)

    def run_row(self, row, handled):
        """Run a row while the error with the chain `handled`, or none, is being handled."""
        for statement in row:
            out = self.run_statement(statement, handled)
            if out != ENDED:
                return out
        return ENDED

    def run_statement(self, statement, handled):
        """Run a statement, and return what goes on behind it."""
        word = statement[0]
        if word == "guard":
            return self.run_guard(statement, handled)
        if word == "step":
            return self.run_step(statement[1], handled)
        if word == "leave":
            return LEFT
        if word == "again":
            return ("error", handled)
        return ("error", chain_of(word, statement[1], handled))

    def run_step(self, name, handled):
        """Run a step, or ask for it."""
        if name not in self.answers:
            return ("asks", name)
        self.done.append(name)
        if self.answers[name]:
            return ("error", chain_of("step", name, handled))
        return ENDED

    def run_guard(self, guard, handled):
        """Run the body of a guard, a handler if there is one for its error, and the last row."""
        _, body, handlers, last = guard
        out = self.run_row(body, handled)
        if out[0] == "error":
            out = self.run_handlers(handlers, out)
        if out[0] == "asks":
            return out
        under_way = out[1] if out[0] == "error" else handled
        behind = self.run_row(last, under_way)
        return out if behind == ENDED else behind

    def run_handlers(self, handlers, out):
        """Run the row of the first handler that has an error's name; without one the error goes on."""
        chain = out[1]
        for names, row in handlers:
            if names is None or chain[0][1] in names:
                return self.run_row(row, chain)
        return out


def chain_of(word, name, handled):
    """Return the chain of the error that a statement raises while another one, or none, is being handled."""
    beginning = (("told", name),)
    if handled is None or word == "hide":
        return beginning
    link = "from" if word == "from" else "during"
    return beginning + ((link, handled[0][1]),) + handled[1:]


def told_anew(out):
    """Return what is told at last, with a new list if it has a chain."""
    if out[0] == "error":
        return ("error", list(out[1]))
    return out
