"""How many cups are wanted at a table, and how many must stand there at first."""

from marathonday.flow import passing


def wanted(table, goes):
    """How many cups are wanted in each minute of the day, if so many go through the narrow."""
    return [table.takes * many for many in passing(goes, table.away)]


def brought(table, minutes):
    """How many cups are brought in each minute of the day."""
    cups = [0] * minutes
    for minute, many in table.deliveries:
        cups[minute] += many
    return cups


def sums_so_far(numbers):
    """The sum up to each number, with it."""
    sums = []
    so_far = 0
    for number in numbers:
        so_far += number
        sums.append(so_far)
    return sums


def missing(table, goes):
    """By how much more was wanted than was brought, behind each minute (below 0: by how much less)."""
    wants = wanted(table, goes)
    brings = brought(table, len(goes))
    return sums_so_far([want - cups for want, cups in zip(wants, brings)])


def least(table, goes):
    """So many cups must stand there at first."""
    return max([0] + missing(table, goes))


def is_enough(table, goes):
    """Whether what stands there at first is enough."""
    return least(table, goes) <= table.stock


def leasts(tables, goes):
    """Each table's least."""
    return [least(table, goes) for table in tables]


def carried(tables, needs):
    """Of each gap how many more stand up to it than are needed there; None if there aren't just enough in all."""
    over = sums_so_far([table.stock - need for table, need in zip(tables, needs)])
    # What is over behind the last table is over in all; there may be no table.
    if sum(over[-1:]) != 0:
        return None
    return over[:-1]


def steps_over(gaps):
    """How many steps it takes, if so many are carried over each gap."""
    return sum([abs(cups) for cups in gaps])


def short_tables(tables, goes):
    """The tables at which there aren't enough, rising."""
    return [k for k, table in enumerate(tables) if not is_enough(table, goes)]


def needed_together(tables, goes):
    """So many must stand there at first, if cups may be carried from any table to any other one."""
    lacking = [0] * len(goes)
    for table in tables:
        lacking = [one + other for one, other in zip(lacking, missing(table, goes))]
    return max([0] + lacking)


def first_short(table, goes):
    """The first minute behind which there are too few (the day's number of minutes, if behind none)."""
    for minute, cups in enumerate(missing(table, goes)):
        if cups > table.stock:
            return minute
    return len(goes)


def latest_minute(table, goes, cups):
    """The latest minute in which so many more may be brought, so that there are enough; None if in none."""
    # Later than in the first minute with too few is too late, and sooner helps no other minute behind it.
    minute = min(first_short(table, goes), len(goes) - 1)
    brought_then = table.delivered(table.deliveries + ((minute, cups),))
    return minute if is_enough(brought_then, goes) else None


def filled_minutes(wants, stock, holds):
    """The minutes in which a table is filled up to what it holds, no sooner than it must be."""
    minutes = []
    there = stock
    for minute, cups in enumerate(wants):
        if there < cups:
            minutes.append(minute)
            there = holds
        there -= cups
    return minutes
