"""What a value is, asked of any value."""

from fromsize.errors import BadNumber


def is_integer(value):
    """Whether a value is an integer; True and False are none."""
    return isinstance(value, int) and not isinstance(value, bool)


def is_within(value, least, most):
    """Whether a value is an integer from least to most; None stands for no bound."""
    if not is_integer(value):
        return False
    return (least is None or least <= value) and (most is None or value <= most)


def is_list(value):
    """Whether a value is a list or a tuple."""
    return isinstance(value, (list, tuple))


def is_numbers(value):
    """Whether a value is a list or tuple of integers."""
    # Most are plain integers, and then no call is needed for each of them.
    return is_list(value) and all([type(one) is int or is_integer(one) for one in value])


def is_size(value):
    """Whether a value is a size."""
    return is_within(value, 1, None)


def is_setting(value, many):
    """Whether a value is a setting of so many integers."""
    if not is_integer(many) or not is_numbers(value):
        return False
    return len(value) == many and all([one >= 0 for one in value])


def is_setting_of_size(value, many, size):
    """Whether a value is a setting of so many integers, all of them below size."""
    return is_setting(value, many) and all([one < size for one in value])


def is_table(value, size):
    """Whether a value is a table of this size."""
    if not is_size(size) or not is_list(value) or len(value) != size:
        return False
    return all([is_numbers(row) and len(row) == size for row in value])


def need_size(size):
    """Refuse what is no size."""
    if not is_size(size):
        raise BadNumber("size")
