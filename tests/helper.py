"""Calls by their names, their answers each as a list of its own, and small days to count by hand."""

import random

from marathonday.marathon import answers

NAMES = """
    begin wave shift drop wide set_plan all_later table bring take stock level crossing gap place road home
    comes waits goes holds longest most total clear least_wide in_turn plan passing wants there least
    short enough apart together latest fewest steps runs open next shuts shut_longest held least_most
    marshals duties arrive all leave worst home_by nth best_start cups_if widest
    look_wave look_table look_road sums back again state
""".split()

# How many whole numbers each call is given; in_turn has a row in their place.
SIZES = dict(zip(NAMES, [
    3, 4, 2, 1, 1, 0, 1, 3, 3, 1, 2, 0, 1, 1, 0, 4, 1,
    1, 1, 1, 1, 0, 0, 0, 0, 1, None, 0, 2, 2, 2, 1,
    1, 0, 0, 0, 2, 2, 0, 2, 2, 2, 1, 1, 2, 2,
    0, 0, 3, 2, 3, 2, 1, 1, 2, 1, 1,
    1, 1, 1, 0, 0, 0, 0,
]))

GREATEST = 2 ** 32 - 1


def numbers_of(call):
    """One call, a name and what it is given, as the numbers that are handed in."""
    numbers = [NAMES.index(call[0])]
    for given in call[1:]:
        if isinstance(given, list):
            numbers.append(len(given))
            numbers.extend(given)
        else:
            numbers.append(given)
    return numbers


def flat(calls):
    return [number for call in calls for number in numbers_of(call)]


def parted(told):
    """The answers, each as a list of its own."""
    parts = []
    at = 0
    while at < len(told):
        parts.append(told[at + 1:at + 1 + told[at]])
        assert len(parts[-1]) == told[at] and told[at] >= 1, told
        at += 1 + told[at]
    return parts


def run(*calls):
    """What each call answers, one behind another on one new object."""
    assert len(calls) <= 120 and len(flat(calls)) <= 1440, "a line holds no more"
    told = answers(flat(calls))
    assert all(type(number) is int for number in told), told
    parts = parted(told)
    assert len(parts) == len(calls), (calls, parts)
    return parts


def last(*calls):
    """What the last call answers."""
    return run(*calls)[-1]


def asked(before, *asks):
    """What each of the asks answers, behind the calls before."""
    return run(*before, *asks)[len(before):]


def probe():
    """Calls that show all that can be seen of an object; those that change it stand last."""
    calls = [("state",), ("sums",), ("longest",), ("most",), ("total",), ("clear",), ("least_wide", 1), ("plan",)]
    calls += [("look_wave", i) for i in range(8)] + [("look_table", k) for k in range(5)]
    calls += [("look_road", r) for r in range(12)]
    calls += [("apart",), ("together",), ("enough",), ("duties",), ("home_by", 0), ("home_by", 19), ("home_by", 59)]
    # How many minutes a gap needs, and how far each crossing is, no look tells: a runner shows how far.
    calls += [("gap", 1), ("drop", 0), ("wave", 0, 1, 1, 0)] + [("shuts", c) for c in range(6)]
    return calls


def any_call(name, number):
    """A call of this name, each of its numbers the same."""
    if name == "in_turn":
        return (name, [number] * 3)
    return (name,) + (number,) * SIZES[name]


def some_day(source):
    """The calls of a small day: waves, tables with deliveries, crossings, places and roads."""
    minutes = source.randint(1, 30)
    calls = [("begin", minutes, source.randint(1, 6), source.randint(1, 5)), ("home", source.randint(0, 12))]
    for number in range(source.randint(0, 4)):
        calls.append(("wave", source.randint(0, 12), source.randint(1, 5), source.randint(1, 7), source.randint(0, 6)))
    for k in range(source.randint(0, 3)):
        calls.append(("table", source.randint(0, 9), source.randint(1, 4), source.randint(0, 60)))
        for number in range(source.randint(0, 3)):
            calls.append(("bring", k, source.randrange(minutes), source.randint(1, 25)))
    crossings = source.randint(0, 4)
    calls += [("crossing", source.randint(0, 12)) for c in range(crossings)]
    places = source.randint(0, 5)
    calls += [("place",)] * places
    for r in range(source.randint(0, 7) if places > 1 else 0):
        ends = source.sample(range(places), 2)
        calls.append(("road", *ends, source.randint(1, 12), source.randint(0, crossings)))
    return calls


def some_days(seed, many=150):
    """So many small days, the same ones each time."""
    source = random.Random(seed)
    return [Day(some_day(source)) for number in range(many)]


def comers(waves):
    """The minute in which each runner comes to the narrow, rising."""
    minutes = []
    for start, length, many, way in waves:
        for number in range(length):
            minutes += [start + number + way] * many
    return sorted(minutes)


def leavers(come, wide):
    """The minute in which each of them goes through, who comes first going first."""
    through = []
    for number, minute in enumerate(come):
        # The one who is wide places ahead went at least a minute sooner.
        through.append(max(minute, through[number - wide] + 1 if number >= wide else 0))
    return through


class Day:
    """What was told of a day, and each of its runners by himself; read from the calls, not from the program."""

    def __init__(self, calls):
        self.calls = calls
        self.minutes, self.wide, self.gap = calls[0][1:]
        self.home = sum(call[1] for call in calls if call[0] == "home")
        self.waves = [call[1:] for call in calls if call[0] == "wave"]
        self.tables = [call[1:] for call in calls if call[0] == "table"]
        self.brings = [call[1:] for call in calls if call[0] == "bring"]
        self.crossings = [call[1] for call in calls if call[0] == "crossing"]
        self.places = calls.count(("place",))
        self.roads = [call[1:] for call in calls if call[0] == "road"]
        self.come = comers(self.waves)
        self.through = leavers(self.come, self.wide)

    def by_wide(self, wide):
        """The same day by a narrow so wide."""
        return Day([("begin", self.minutes, wide, self.gap)] + self.calls[1:])

    def by_start(self, i, start):
        """The same day, wave i starting then."""
        calls = list(self.calls)
        at = [number for number, call in enumerate(calls) if call[0] == "wave"][i]
        calls[at] = ("wave", start) + calls[at][2:]
        return Day(calls)

    def waited(self):
        return sum(self.through) - sum(self.come)

    def passes(self, away, t):
        return self.through.count(t - away)

    def waits(self, t):
        return sum(come <= t < goes for come, goes in zip(self.come, self.through))

    def wants(self, k, t):
        return self.tables[k][1] * self.passes(self.tables[k][0], t)

    def there(self, k, t, stock):
        brought = sum(n for table, minute, n in self.brings if table == k and minute <= t)
        return stock + brought - sum(self.wants(k, minute) for minute in range(t + 1))

    def least(self, k):
        return max([0] + [-self.there(k, t, 0) for t in range(self.minutes)])

    def leasts(self):
        return [self.least(k) for k in range(len(self.tables))]

    def short(self):
        """The tables at which there are too few in some minute."""
        return [k for k, table in enumerate(self.tables)
                if any(self.there(k, t, table[2]) < 0 for t in range(self.minutes))]

    def may_cross(self, c, t):
        """Whether cars may cross in that minute: some gap that it is in is free in each of its minutes."""
        def free(minute):
            return minute >= self.minutes or self.passes(self.crossings[c], minute) == 0
        firsts = range(max(0, t - self.gap + 1), t + 1)
        return any(all(free(first + number) for number in range(self.gap)) for first in firsts)
