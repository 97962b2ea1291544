"""What a marathon is told to be.

Of a race only whole values are replaced, and a wave, a table or a road is never changed once it is made:
so what was told earlier can be kept as it was.
"""

# How many minutes behind the narrow a table, a crossing or home can be.
FARTHEST = 100


class Wave:
    """Runners who start together; as many as start in a minute come to the narrow a way later."""

    def __init__(self, start, length, many, way):
        self.start = start
        self.length = length
        self.many = many
        self.way = way

    def starting(self, start):
        """The same wave, but with this start."""
        return Wave(start, self.length, self.many, self.way)

    def first_comes(self):
        """The minute in which its first ones come to the narrow."""
        return self.start + self.way


class Table:
    """A table with cups; its deliveries are pairs of a minute and so many cups, as they were told."""

    def __init__(self, away, takes, stock, deliveries):
        self.away = away
        self.takes = takes
        self.stock = stock
        self.deliveries = deliveries

    def stocked(self, stock):
        """The same table, but with so many cups at first."""
        return Table(self.away, self.takes, stock, self.deliveries)

    def delivered(self, deliveries):
        """The same table, but with these deliveries."""
        return Table(self.away, self.takes, self.stock, deliveries)


class Road:
    """A road between two places; its crossing is told by its number and 1, or 0 for none."""

    def __init__(self, one_end, other_end, long, crossing):
        self.one_end = one_end
        self.other_end = other_end
        self.long = long
        self.crossing = crossing


class Race:
    """A marathon that has begun: at first nothing is there, and it is 0 minutes home."""

    def __init__(self, minutes, wide, gap):
        self.minutes = minutes
        self.wide = wide
        self.gap = gap
        self.home = 0
        self.waves = ()
        self.tables = ()
        self.crossings = ()
        self.places = 0
        self.roads = ()


def with_part(parts, i, part):
    """The same parts, but with this one in the place of number i."""
    return parts[:i] + (part,) + parts[i + 1:]
