"""Printing causes."""

SUFFIXES = {(False, 0): "", (False, 1): "+", (False, 2): "*", (True, 0): "!"}


def show_cause(cause):
    """Return the printed form of the cause."""
    if cause[0] == "issue":
        _, name, of_law, majority = cause
        return name + SUFFIXES[(of_law, majority)]
    connective, first, second = cause
    return f"({show_cause(first)} {connective} {show_cause(second)})"
