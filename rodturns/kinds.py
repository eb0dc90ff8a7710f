"""What kind of value something is."""


def is_integer(thing):
    """Whether any value is an integer; Python counts bools as int, the program does not."""
    return isinstance(thing, int) and not isinstance(thing, bool)
