"""What integers, rows and names are, and rows with one item changed."""

LONGEST_NAME = 8


def is_integer(value):
    """To Python a flag is an int, too; here it is none."""
    return isinstance(value, int) and not isinstance(value, bool)


def is_between(value, least, greatest):
    """Whether the value is an integer from least to greatest."""
    return is_integer(value) and least <= value <= greatest


def is_below(value, bound):
    """Whether the value is an integer from 0 to bound - 1."""
    return is_between(value, 0, bound - 1)


def is_row(value, fewest, most):
    """Whether the value is a list or a tuple of fewest to most items."""
    return isinstance(value, (list, tuple)) and fewest <= len(value) <= most


def is_name(value):
    """Whether the value is a string of 1 to 8 letters from a to z."""
    if not isinstance(value, str) or not 1 <= len(value) <= LONGEST_NAME:
        return False
    return all(["a" <= sign <= "z" for sign in value])


def with_item(row, at, item):
    """The tuple with another item at one place."""
    return row[:at] + (item,) + row[at + 1:]


def as_tuples(value):
    """The value with tuples in the place of all rows, also inside."""
    if isinstance(value, (list, tuple)):
        return tuple([as_tuples(item) for item in value])
    return value
