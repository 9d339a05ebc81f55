"""What several modules ask of a value, whatever it is."""


def is_whole(value):
    """Whether the value is an integer."""
    # Python counts True and False among the integers; the document does not.
    return isinstance(value, int) and not isinstance(value, bool)


def is_between(value, least, most):
    """Whether the value is an integer from least to most."""
    return is_whole(value) and least <= value <= most
