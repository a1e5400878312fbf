"""What counts as an INTEGER, a COUNT and a list."""


def is_integer(value):
    """Whether any value is an INTEGER; True and False are none."""
    return isinstance(value, int) and not isinstance(value, bool)


def is_count(value):
    """Whether any value is a COUNT, an INTEGER that is at least 0."""
    return is_integer(value) and value >= 0


def is_list(value):
    """Whether any value is a list or a tuple."""
    return isinstance(value, (list, tuple))
