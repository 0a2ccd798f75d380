"""Tables of numbers, with a row for each host and a column for each guest, and their lines.

The lines of a table stand in one order everywhere: the row sums, the numbers row by row, the column sums, the sum.
"""

from meetrounds.values import is_integer


def _is_row(value, guests, most):
    """Whether the value is a row of so many integers from 0 to most, from 0 on if most is None."""
    if not isinstance(value, tuple) or len(value) != guests:
        return False
    return all([is_integer(number, 0, most) for number in value])


def table_fault(value, hosts, guests, most=None):
    """What is wrong with a table of so many rows and columns: (), or a tuple of the one index to tell."""
    if not isinstance(value, tuple) or len(value) != hosts:
        return (None,)
    for index, row in enumerate(value):
        if not _is_row(row, guests, most):
            return (index,)
    return ()


def sum_of(table):
    """The sum of a table."""
    return sum([sum(row) for row in table])


def lines_of(table):
    """The lines of a table."""
    rows = [sum(row) for row in table]
    numbers = [number for row in table for number in row]
    columns = [sum(column) for column in zip(*table)]
    return rows + numbers + columns + [sum(rows)]


def line_at(hosts, guests, row, column):
    """Where the number in this row and column stands among the lines."""
    return hosts + row * guests + column


def table_of(lines, hosts, guests):
    """The table that has these lines."""
    begins = [hosts + row * guests for row in range(hosts)]
    return tuple([tuple(lines[begin:begin + guests]) for begin in begins])


def is_within(table, greater):
    """Whether no number of a table is more than that of another one of its size."""
    return all([number <= most for row, mosts in zip(table, greater) for number, most in zip(row, mosts)])


def difference(table, taken):
    """What is left of a table when another one of its size is taken away."""
    return tuple([tuple([number - less for number, less in zip(*rows)]) for rows in zip(table, taken)])


def repeated(table, times):
    """The sum of so many tables that are alike."""
    return tuple([tuple([number * times for number in row]) for row in table])


def limits_of(fair):
    """For each line how much of it a round of the fair can have at most, None where only other lines limit it."""
    hosts = [bound for _, bound in fair.hosts]
    guests = [bound for _, bound in fair.guests]
    return hosts + [None] * (len(hosts) * len(guests)) + guests + [fair.tables]


def ceiling(number, by):
    """The least integer that is at least number / by."""
    return -(-number // by)
