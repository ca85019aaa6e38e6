"""Stretches: intervals of integers, with None in place of an end that they do not have."""


def begin_key(stretch):
    """Return by what stretches are sorted: one without a least number comes first."""
    least = stretch[0]
    return (0, 0) if least is None else (1, least)


def lies_beyond(number, end):
    """Tell if an integer lies between a stretch's end and a number that another one begins with."""
    return number is not None and end is not None and number > end + 1


def greater_end(first, second):
    """Return which of the ends of two stretches is the greater one; None is beyond all."""
    return None if first is None or second is None else max(first, second)


def join_stretches(stretches):
    """Return the list of the joined stretches."""
    joined = []
    for least, greatest in sorted(stretches, key=begin_key):
        if joined and not lies_beyond(least, joined[-1][1]):
            joined[-1] = (joined[-1][0], greater_end(joined[-1][1], greatest))
        else:
            joined.append((least, greatest))
    return joined


def stretch_of(table, first, second):
    """Return the stretch of how much later the second point can be than the first one, by a possible table."""
    back = table.distance(second, first)
    return (None if back is None else -back, table.distance(first, second))


def is_within(stretch, number):
    """Tell if a number is in a stretch."""
    least, greatest = stretch
    return (least is None or least <= number) and (greatest is None or number <= greatest)


def holds_number(stretches, number):
    """Return True if the number is in one of the stretches."""
    return any([is_within(stretch, number) for stretch in stretches])


def least_of(stretches):
    """Return the least number of joined stretches; None if there is none."""
    return stretches[0][0] if stretches else None


def greatest_of(stretches):
    """Return the greatest number of joined stretches; None if there is none."""
    return stretches[-1][1] if stretches else None
