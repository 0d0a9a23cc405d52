"""Ways to choose one of each of several parts."""


def many_choices(parts):
    """Tell how many ways there are."""
    many = 1
    for part in parts:
        many *= len(part)
    return many


def choices(parts):
    """List the ways as tuples; they rise where each part does."""
    rows = [()]
    for part in parts:
        rows = [row + (one,) for row in rows for one in part]
    return rows
