"""What the tests compare the program with: Python's own exceptions, plain searches over all lots, built programs."""

import itertools
import random
import sys


class Raised(Exception):
    """The common base of the exceptions that stand for a program's errors."""


def guard(body=(), handlers=(), last=()):
    """A guard, for tests that are written by hand."""
    return ("guard", list(body), list(handlers), list(last))


# Fourteen statements, guards four deep, eight unlike names.
GREAT = [("step", "h"), guard([("step", "a"), guard([("step", "b"), guard([("step", "c"), guard(
    [("step", "d")], [(None, [("step", "e")])], [("step", "f")])], [], [("step", "g")])])], [(["a", "d"], [
        ("step", "c"), ("again",)])])]


class Classes(dict):
    """A class of exceptions for each name, made when it is asked for."""

    def __missing__(self, name):
        self[name] = type("Raised_" + name, (Raised,), {"told_as": name})
        return self[name]


CLASSES = Classes()


class Record:
    """What came of one run of a row as Python, with exceptions for errors, in which the steps of a lot fail.

    `told` is what is told at last, `done` has the names of the steps that were run, and `handled` for each of them
    the chain that was being handled, or None. `raised` and `over` have the very exceptions of the steps, `loses`
    tells whether a `hide` or a `leave` was run.
    """

    def __init__(self, row, lot):
        self.lot = lot
        self.done, self.handled, self.raised, self.over = [], [], [], []
        self.loses = False
        self.last = None
        try:
            self.told = ("left",) if self.run_row(row, ()) else ("ended",)
        except Raised as error:
            self.last = error
            self.told = ("error", chain_of(error))
        for error in self.raised:
            error.__traceback__ = None

    def run_row(self, row, held):
        """Run a row, and return True if it leaves; `held` has the errors that are being handled around it."""
        for statement in row:
            if self.run_statement(statement, held):
                return True
        return False

    def run_statement(self, statement, held):
        """Run a statement, and return True if it leaves."""
        word = statement[0]
        if word == "guard":
            return self.run_guard(*statement[1:], held)
        if word in ("hide", "leave"):
            self.loses = True
        if word == "step":
            self.run_step(statement[1])
        elif word == "raise":
            raise CLASSES[statement[1]]()
        elif word == "from":
            raise CLASSES[statement[1]]() from sys.exc_info()[1]
        elif word == "hide":
            raise CLASSES[statement[1]]() from None
        elif word == "again":
            raise
        return word == "leave"

    def run_step(self, name):
        """Run a step."""
        self.done.append(name)
        self.handled.append(chain_of(sys.exc_info()[1]) or None)
        if name in self.lot:
            self.raised.append(CLASSES[name]())
            raise self.raised[-1]

    def run_guard(self, body, handlers, last, held):
        """Run a guard, and return True if it leaves."""
        try:
            return self.run_row(body, held)
        except Raised as error:
            for names, row in handlers:
                if names is None or error.told_as in names:
                    if self.run_row(row, (*held, error)):
                        return True
                    self.end_handler((*held, error))
                    return False
            raise
        finally:
            if self.run_row(last, (*held, sys.exc_info()[1])):
                return True

    def end_handler(self, held):
        """Note which errors are over as the row of a handler ends; `held` has its error behind all those around."""
        still = [error for each in held[:-1] for _, error in links_of(each)]
        self.over.extend(error for _, error in links_of(held[-1]) if not is_one_of(error, still))

    def is_over(self, error):
        """Tell whether an error is over."""
        return is_one_of(error, self.over)

    def is_told(self, error):
        """Tell whether this very error is one of the chain that is told."""
        return is_one_of(error, [other for _, other in links_of(self.last)])

    def hidden(self):
        """The steps that are hidden, ascending, each once."""
        lost = [error for error in self.raised if not self.is_over(error) and not self.is_told(error)]
        return sorted({error.told_as for error in lost})


def is_one_of(error, errors):
    """Tell whether an error is this very one of some errors."""
    return any(error is other for other in errors)


def observe(row, lot):
    """Run a row as Python; return what is told at last, and the names of the steps that were run."""
    record = Record(row, lot)
    return record.told, record.done


def chain_of(error):
    """The chain of words and names that Python itself would print of an exception, the last one first."""
    return [(word, each.told_as) for word, each in links_of(error)]


def links_of(error):
    """The words and exceptions of the chain of an exception, the last one first; none without an exception."""
    links = []
    word = "told"
    while error is not None:
        links.append((word, error))
        if error.__cause__ is not None:
            word, error = "from", error.__cause__
        else:
            word, error = "during", None if error.__suppress_context__ else error.__context__
    return links


def told(row, lot):
    """What is told at last."""
    return observe(row, lot)[0]


def placed(row, way=()):
    """All (place, statement) of a row and the rows within it."""
    for at, statement in enumerate(row):
        place = [*way, at]
        yield place, statement
        if statement[0] == "guard":
            for part, inner in enumerate([statement[1], statement[3]] + [h[1] for h in statement[2]]):
                yield from placed(inner, [*place, part])


def steps_of(row):
    """The names of the steps, ascending."""
    return sorted({statement[1] for _, statement in placed(row) if statement[0] == "step"})


def names_of(row):
    """All names, ascending."""
    found = set()
    for _, statement in placed(row):
        if statement[0] == "guard":
            found.update(name for names, _ in statement[2] for name in names or [])
        else:
            found.update(statement[1:])
    return sorted(found)


def lots(steps):
    """All lots of some steps, by their number of names, then as ascending lists."""
    every = [[step for step, is_in in zip(steps, pattern) if is_in]
             for pattern in itertools.product([False, True], repeat=len(steps))]
    return sorted(every, key=lambda lot: (len(lot), sorted(lot)))


def first_unlike(one, other):
    """The first lot that parts two rows, found by running both for each lot."""
    for lot in lots(sorted(set(steps_of(one) + steps_of(other)))):
        if told(one, lot) != told(other, lot):
            return lot
    return None


def hidden_by(row, lot):
    """The steps that a lot hides, ascending."""
    return Record(row, lot).hidden()


def hides_nothing(row):
    """Tell whether no lot hides a step."""
    return not any(hidden_by(row, lot) for lot in lots(steps_of(row)))


def with_changes(row, places):
    """A row in which the hides at some places are raises, and the leaves at others are taken out."""
    for place in sorted(places, reverse=True):
        row = changed(row, place, lambda inner, at: (
            inner[:at] + [("raise", *inner[at][1:])] * (inner[at][0] == "hide") + inner[at + 1:]))
    return row


def helpful_changes(row):
    """All sets of changes by which no lot hides a step, by their number, then as lists; found by trying each one."""
    places = [place for place, statement in placed(row) if statement[0] in ("hide", "leave")]
    every = [list(some) for many in range(len(places) + 1) for some in itertools.combinations(sorted(places), many)]
    return [some for some in every if hides_nothing(with_changes(row, some))]


def least_of(sets):
    """Those of some sets, each a list, that have no other one of them within them."""
    return [one for one in sets if not any(other != one and all(part in one for part in other) for other in sets)]


def changed(row, place, change):
    """A row in which `change` stands in for the row from which a place takes its last index."""
    at = place[0]
    if len(place) == 1:
        return change(row, at)
    word, body, handlers, last = row[at]
    part, rest = place[1], place[2:]
    if part == 0:
        body = changed(body, rest, change)
    elif part == 1:
        last = changed(last, rest, change)
    else:
        handlers = list(handlers)
        handlers[part - 2] = (handlers[part - 2][0], changed(handlers[part - 2][1], rest, change))
    return row[:at] + [(word, body, handlers, last)] + row[at + 1:]


def without(row, place):
    """A row without the statement at a place."""
    return changed(row, place, lambda inner, at: inner[:at] + inner[at + 1:])


def swapped(row, place):
    """A row in which the statement at a place and the next one have changed places."""
    return changed(row, place, lambda inner, at: inner[:at] + [inner[at + 1], inner[at]] + inner[at + 2:])


class Builder:
    """Builds rows by a fixed seed."""

    def __init__(self, seed, letters="abcd", most=12, depth=3, words=()):
        self.rng = random.Random(seed)
        self.letters = letters
        self.words = list(words)
        self.left = self.rng.randint(most // 3, most)
        self.depth = depth

    def row(self, handled=False, depth=0):
        """A row that may stand in a handler, or in none."""
        return [self.statement(handled, depth) for _ in range(self.rng.choice([0, 1, 2, 2, 2, 3])) if self.take()]

    def take(self):
        """Use up one of the statements that are left."""
        self.left -= 1
        return self.left >= 0

    def statement(self, handled, depth):
        """A statement of any kind that may stand here."""
        words = ["step"] * 8 + ["raise", "hide", "leave"] + self.words
        if handled:
            words += ["from", "from", "again", "again"]
        if depth < self.depth:
            words += ["guard"] * 9
        word = self.rng.choice(words)
        if word in ("again", "leave"):
            return (word,)
        if word != "guard":
            return (word, self.rng.choice(self.letters))
        body = self.row(handled, depth + 1)
        handlers = [self.handler(depth) for _ in range(self.rng.choice([0, 1, 1, 2]))]
        return ("guard", body, handlers, self.row(handled, depth + 1))

    def handler(self, depth):
        """A handler of some errors, or of all."""
        names = None
        if self.rng.random() < 0.5:
            names = self.rng.sample(self.letters, self.rng.randint(0, 2))
        return (names, self.row(True, depth + 1))


def built_rows(many, first=0, **options):
    """Rows of programs, always the same ones; empty ones are left out."""
    rows = (Builder(seed, **options).row() for seed in itertools.count(first))
    return list(itertools.islice((row for row in rows if row), many))


def lossy_row(seed, **options):
    """A row of a guard that often loses an error, and others behind it; it is no greater than programs may be."""
    builder = Builder(seed, **options)
    body = [("step", builder.rng.choice(builder.letters))] + builder.row(False, 1)
    handlers = [(None, builder.row(True, 1))] if builder.rng.random() < 0.6 else []
    return [guard(body, handlers, builder.row(False, 1))] + builder.row()


def lossy_rows(many):
    """Rows of programs in which hides and leaves are frequent, always the same ones."""
    kinds = [{"words": ["hide", "leave"] * 3}, {"words": ["hide", "leave"]},
             {"letters": "ab", "most": 11, "depth": 4, "words": ["hide", "hide", "leave"] * 2},
             {"letters": "abcdefgh", "most": 11, "depth": 4, "words": ["hide", "leave"] * 2}]
    return [lossy_row(seed, **kinds[seed % len(kinds)]) for seed in range(many)]


def great_row():
    """A row of 60 statements, with guards 6 deep and 30 names."""
    names = ["n" + chr(97 + at) for at in range(26)] + ["ma", "mb", "mc", "md"]
    row = [("step", names[24]), ("raise", names[25])]
    for at in range(6):
        one, two, three, four = names[4 * at:4 * at + 4]
        handlers = [([one, two], [("again",), ("step", three)]), (None, [("from", four), ("leave",)])]
        row = [("step", one), guard(row, handlers, [("step", two), ("step", three)]), ("step", four)]
    return row + [("step", names[26 + at]) for at in (0, 1, 2, 3)]


def lists_within(value):
    """All lists in a value, once for each place in which they stand."""
    found = [value] if isinstance(value, list) else []
    if isinstance(value, (list, tuple)):
        for part in value:
            found.extend(lists_within(part))
    return found


def stand_alone(*values):
    """Tell whether each list in some values stands in one place alone."""
    every = [id(part) for value in values for part in lists_within(value)]
    return len(every) == len(set(every))
