"""INTEGERS, COUNTS and lists, and the checks that hang on no class of the package."""

from aheadsums.errors import InvalidColumns, UnlikeColumns

MOST_COLUMNS = 3


def is_integer(value):
    """Whether any value is an INTEGER: an int that is not a bool."""
    return isinstance(value, int) and not isinstance(value, bool)


def is_count(value):
    """Whether any value is a COUNT: an INTEGER that is at least 0."""
    return is_integer(value) and value >= 0


def is_count_to(value, most):
    """Whether any value is a COUNT that is at most this one."""
    return is_count(value) and value <= most


def is_list(value):
    """Whether any value may stand where a list is passed: a tuple may, too."""
    return isinstance(value, (list, tuple))


def need_columns(columns):
    """InvalidColumns unless a COUNT of columns."""
    if not is_count_to(columns, MOST_COLUMNS):
        raise InvalidColumns(columns)


def need_like_columns(first, second):
    """UnlikeColumns unless both objects are for as many columns."""
    if first.columns != second.columns:
        raise UnlikeColumns()
