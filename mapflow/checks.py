"""What any value is: an integer, a fraction, a place."""


def is_integer(value):
    """Whether value is an integer."""
    # Python counts True and False among the integers, the document does not.
    return isinstance(value, int) and not isinstance(value, bool)


def is_within(value, least, most):
    """Whether value is an integer from least to most; a bound None does not bound."""
    if not is_integer(value):
        return False
    return (least is None or value >= least) and (most is None or value <= most)


def is_list(value):
    """Whether value is a list or a tuple, which stand for one another."""
    return isinstance(value, (list, tuple))


def is_fraction(value):
    """Whether value is an integer or a pair (up, down), down from 1 on."""
    if is_integer(value):
        return True
    if not is_list(value) or len(value) != 2:
        return False
    return is_integer(value[0]) and is_within(value[1], 1, None)


def is_fraction_to(value, most):
    """Whether value is a fraction from 0 to most, an integer."""
    if not is_fraction(value):
        return False
    up, down = (value, 1) if is_integer(value) else value
    return 0 <= up <= most * down


def is_place(value):
    """Whether value is a pair of two fractions."""
    if not is_list(value) or len(value) != 2:
        return False
    return is_fraction(value[0]) and is_fraction(value[1])
