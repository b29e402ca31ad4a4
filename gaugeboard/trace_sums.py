"""Sums over numbers of a trace. Each is made a double on the way, so the order decides the last bit."""

from gaugeboard.doubles import made_double, product_and_sum

PARTS = 4


def added(first, second):
    """Two doubles added, and that made a double."""
    return made_double(first + second, 1)


def all_parts(parts):
    return added(added(parts[0], parts[1]), added(parts[2], parts[3]))


def sums_of(numbers):
    """The sum, the sum of squares, the least and the greatest of one or more doubles."""
    sums = [0] * PARTS
    squares = [0] * PARTS
    for i, number in enumerate(numbers):
        part = i % PARTS
        sums[part] = added(sums[part], number)
        squares[part] = product_and_sum(number, number, squares[part])
    return [all_parts(sums), all_parts(squares), min(numbers), max(numbers)]
