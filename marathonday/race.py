"""What a marathon is told to be.

Of a race only whole values are replaced, and a wave, a table or a road is never changed once it is made:
so what was told earlier can be kept as it was.
"""

# How many minutes behind the narrow a table, a crossing or home can be.
FARTHEST = 100


class Wave:
    """Runners who start together; as many as start in a minute come to the narrow a way later."""

    def __init__(self, start, length, many, way):
        self.start = start
        self.length = length
        self.many = many
        self.way = way

    def starting(self, start):
        """The same wave, but with this start."""
        return Wave(start, self.length, self.many, self.way)

    def first_comes(self):
        """The minute in which its first ones come to the narrow."""
        return self.start + self.way

    def told(self):
        """All that was told of it, as plain numbers."""
        return (self.start, self.length, self.many, self.way)


class Table:
    """A table with cups; its deliveries are pairs of a minute and so many cups, as they were told."""

    def __init__(self, away, takes, stock, deliveries):
        self.away = away
        self.takes = takes
        self.stock = stock
        self.deliveries = deliveries

    def stocked(self, stock):
        """The same table, but with so many cups at first."""
        return Table(self.away, self.takes, stock, self.deliveries)

    def delivered(self, deliveries):
        """The same table, but with these deliveries."""
        return Table(self.away, self.takes, self.stock, deliveries)

    def told(self):
        """All that was told of it, as plain numbers; of each delivery its minute, then how many."""
        numbers = (self.stock, self.away, self.takes)
        for delivery in self.deliveries:
            numbers = numbers + delivery
        return numbers


class Road:
    """A road between two places; its crossing is told by its number and 1, or 0 for none."""

    def __init__(self, one_end, other_end, long, crossing):
        self.one_end = one_end
        self.other_end = other_end
        self.long = long
        self.crossing = crossing

    def told(self):
        """All that was told of it, as plain numbers."""
        return (self.long, self.one_end, self.other_end, self.crossing)


class Race:
    """A marathon that has begun: at first nothing is there, and it is 0 minutes home."""

    def __init__(self, minutes, wide, gap):
        self.minutes = minutes
        self.wide = wide
        self.gap = gap
        self.home = 0
        self.waves = ()
        self.tables = ()
        self.crossings = ()
        self.places = 0
        self.roads = ()

    def copied(self):
        """Another race that is just as this one is now."""
        other = Race(self.minutes, self.wide, self.gap)
        other.home = self.home
        other.waves = self.waves
        other.tables = self.tables
        other.crossings = self.crossings
        other.places = self.places
        other.roads = self.roads
        return other

    def told(self):
        """All that can be otherwise behind a call, as plain numbers: alike if two races are."""
        waves = [wave.told() for wave in self.waves]
        tables = [table.told() for table in self.tables]
        roads = [road.told() for road in self.roads]
        return (self.minutes, self.wide, self.gap, self.home, waves, tables, self.crossings, self.places, roads)


def with_part(parts, i, part):
    """The same parts, but with this one in the place of number i."""
    return parts[:i] + (part,) + parts[i + 1:]
