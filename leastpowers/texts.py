"""Shows tables and systems as texts."""


def show_table(table):
    """The text of a table."""
    many, rows = table
    return "\n".join([f"unknowns {many}"] + [show_row(row) for row in rows])


def show_row(row):
    """The line of a row."""
    sides, right = row
    words = [f"{unknown}:{show_bounds(least, greatest)}" for unknown, least, greatest in sides]
    shown = "nothing" if right is None else show_bounds(right[0], right[1])
    return " ".join(["row"] + words + ["=", shown])


def show_bounds(least, greatest):
    """The word for bounds."""
    if greatest is None:
        return f"{least}..none"
    if least == greatest:
        return f"{least}"
    return f"{least}..{greatest}"


def show_system(system):
    """The text of a system."""
    many, waits = system
    return "\n".join([f"events {many}"] + [show_wait(wait) for wait in waits])


def show_wait(wait):
    """The line of a wait."""
    event, options = wait
    return " ".join(["wait", f"{event}"] + [show_option(other, delay) for other, delay in options])


def show_option(other, delay):
    """The word for an option, with the sign of its delay."""
    return f"{other}-{-delay}" if delay < 0 else f"{other}+{delay}"
