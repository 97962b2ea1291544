"""How many cups are wanted at a table, and how many must stand there at first."""

from marathonday.flow import passing


def wanted(table, goes):
    """How many cups are wanted in each minute of the day, if so many go through the narrow."""
    return [table.takes * many for many in passing(goes, table.away)]


def brought(table, minutes):
    """How many cups are brought in each minute of the day."""
    cups = [0] * minutes
    for minute, many in table.deliveries:
        cups[minute] += many
    return cups


def sums_so_far(numbers):
    """The sum up to each number, with it."""
    sums = []
    so_far = 0
    for number in numbers:
        so_far += number
        sums.append(so_far)
    return sums


def missing(table, goes):
    """By how much more was wanted than was brought, behind each minute (below 0: by how much less)."""
    wants = wanted(table, goes)
    brings = brought(table, len(goes))
    return sums_so_far([want - cups for want, cups in zip(wants, brings)])


def least(table, goes):
    """So many cups must stand there at first."""
    return max([0] + missing(table, goes))


def leasts(tables, goes):
    """Each table's least."""
    return [least(table, goes) for table in tables]


def carried(tables, needs):
    """Of each gap, and behind the last table, how many more stand up to it than are needed there."""
    return sums_so_far([table.stock - need for table, need in zip(tables, needs)])
