"""What kind a value is of, where any value may be passed."""


def is_whole(value):
    """Whether a value is an integer; True and False are none."""
    return isinstance(value, int) and not isinstance(value, bool)


def is_list(value):
    """Whether a value may stand where a list is described."""
    return isinstance(value, (list, tuple))
