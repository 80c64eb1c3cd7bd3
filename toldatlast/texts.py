"""Texts of programs and of what is told at last."""


def show_program(program):
    """Return the text of a program."""
    return show_row(program.row)


def show_row(row):
    """Return the text of a row."""
    return "; ".join([show_statement(statement) for statement in row])


def show_statement(statement):
    """Return the text of a statement."""
    if statement[0] != "guard":
        return " ".join(statement)
    _, body, handlers, last = statement
    shown = "".join([show_handler(names, row) for names, row in handlers])
    return "guard " + bracketed(body) + shown + " last " + bracketed(last)


def show_handler(names, row):
    """Return the text of a handler, with the space ahead of it."""
    shown = "*" if names is None else ",".join(names)
    return " on " + shown + " " + bracketed(row)


def bracketed(row):
    """Return the text of a row within a guard."""
    return "{" + show_row(row) + "}"


def show_told(told):
    """Return the text of what is told at last."""
    if told[0] == "error":
        return " ".join([f"{word} {name}" for word, name in told[1]])
    return told[0]
