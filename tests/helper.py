"""Calls by their names, and their answers each as a list of its own."""

from marathonday.marathon import answers

NAMES = """
    begin wave shift drop wide set_plan all_later table bring take stock level crossing gap place road home
    comes waits goes holds longest most total clear least_wide in_turn plan passing wants there least
    short enough apart together latest fewest steps runs open next shuts shut_longest held least_most
    marshals duties arrive all leave worst home_by nth best_start cups_if widest
    look_wave look_table look_road sums back again state
""".split()

# How many whole numbers each call is given; in_turn has a row in their place.
SIZES = dict(zip(NAMES, [
    3, 4, 2, 1, 1, 0, 1, 3, 3, 1, 2, 0, 1, 1, 0, 4, 1,
    1, 1, 1, 1, 0, 0, 0, 0, 1, None, 0, 2, 2, 2, 1,
    1, 0, 0, 0, 2, 2, 0, 2, 2, 2, 1, 1, 2, 2,
    0, 0, 3, 2, 3, 2, 1, 1, 2, 1, 1,
    1, 1, 1, 0, 0, 0, 0,
]))

GREATEST = 2 ** 32 - 1


def numbers_of(call):
    """One call, a name and what it is given, as the numbers that are handed in."""
    numbers = [NAMES.index(call[0])]
    for given in call[1:]:
        if isinstance(given, list):
            numbers.append(len(given))
            numbers.extend(given)
        else:
            numbers.append(given)
    return numbers


def flat(calls):
    return [number for call in calls for number in numbers_of(call)]


def parted(told):
    """The answers, each as a list of its own."""
    parts = []
    at = 0
    while at < len(told):
        parts.append(told[at + 1:at + 1 + told[at]])
        assert len(parts[-1]) == told[at] and told[at] >= 1, told
        at += 1 + told[at]
    return parts


def run(*calls):
    """What each call answers, one behind another on one new object."""
    told = answers(flat(calls))
    assert all(type(number) is int for number in told), told
    parts = parted(told)
    assert len(parts) == len(calls), (calls, parts)
    return parts


def last(*calls):
    """What the last call answers."""
    return run(*calls)[-1]


def asked(before, *asks):
    """What each of the asks answers, behind the calls before."""
    return run(*before, *asks)[len(before):]


def probe():
    """Calls that show all that can be seen of an object; those that change it stand last."""
    calls = [("comes", t) for t in (0, 5, 9, 10, 11, 30)]
    calls += [("waits", t) for t in (9, 11, 14)]
    calls += [("longest",), ("most",), ("total",), ("clear",), ("least_wide", 1), ("plan",)]
    calls += [("passing", 0, t) for t in (0, 9, 19, 39, 59, 119)]
    calls += [("wants", k, 12) for k in range(5)] + [("there", k, 19) for k in range(5)]
    calls += [("least", k) for k in range(5)]
    calls += [("wide", 1), ("gap", 1), ("home", 0)]
    calls += [("shift", i, 0) for i in range(8)]
    calls += [("stock", k, 0) for k in range(5)] + [("take", k) for k in (0, 0, 0, 1, 1, 2, 3, 4)]
    calls += [("crossing", 0), ("place",), ("place",), ("road", 0, 1, 1, 0)]
    return calls
