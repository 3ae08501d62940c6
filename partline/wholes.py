"""Whether values are whole numbers within limits."""


def is_whole(value, least, most):
    """Tell whether a value is a whole number from least to most."""
    # By the very type: True and False are no whole numbers, and an object of
    # any other class is refused without a call of its methods.
    return type(value) == int and least <= value <= most


def are_whole(values, least, most):
    """Tell whether all of a list or tuple are whole numbers from least to most."""
    return all([is_whole(value, least, most) for value in values])


def is_whole_list(values, longest, least, most):
    """Tell whether values is a list, no longer than longest, of such numbers."""
    if type(values) != list or len(values) > longest:
        return False
    return are_whole(values, least, most)
