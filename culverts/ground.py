"""The ground along a road: its stations, their rock and prices, and its low stretches."""

from culverts.refusals import ALREADY_SO, NONE_SUCH, OUT_OF_RANGE, TOO_MANY

FEWEST_STATIONS = 2
MOST_STATIONS = 12
MOST_STRETCHES = 8
MOST_WATER = 20
MOST_PRICE = 9


class Stretch:
    """A low stretch: all stations from first to last, both with them."""

    def __init__(self, first, last, flow):
        self.first = first
        self.last = last
        self.flow = flow

    def covers(self, station):
        return self.first <= station <= self.last


class Ground:
    """What the calls change. Without stations it is not begun."""

    def __init__(self):
        self.rocky = []
        self.prices = []
        self.stretches = []

    def twin(self):
        """Another ground like this one, to be changed without changing this one."""
        other = Ground()
        other.rocky = list(self.rocky)
        other.prices = list(self.prices)
        other.stretches = [Stretch(each.first, each.last, each.flow) for each in self.stretches]
        return other

    def is_begun(self):
        return len(self.rocky) > 0

    def has_station(self, station):
        return station < len(self.rocky)

    def has_stretch(self, number):
        return number < len(self.stretches)

    def is_site(self, station):
        """Whether a culvert can be there."""
        return self.has_station(station) and not self.rocky[station]

    def rock_count(self):
        return self.rocky.count(True)

    def sites(self):
        return [station for station in range(len(self.rocky)) if self.is_site(station)]

    def sites_of(self, stretch):
        return [station for station in self.sites() if stretch.covers(station)]

    def begin(self, stations):
        if not FEWEST_STATIONS <= stations <= MOST_STATIONS:
            return OUT_OF_RANGE
        self.rocky = [False] * stations
        self.prices = [1] * stations
        self.stretches = []
        return 0

    def low(self, first, last, flow):
        if not self.has_station(last) or last < first or not 1 <= flow <= MOST_WATER:
            return OUT_OF_RANGE
        if len(self.stretches) == MOST_STRETCHES:
            return TOO_MANY
        self.stretches.append(Stretch(first, last, flow))
        return len(self.stretches) - 1

    def drop(self, number):
        if not self.has_stretch(number):
            return NONE_SUCH
        self.stretches.pop(number)
        return len(self.stretches)

    def water(self, number, flow):
        if not self.has_stretch(number):
            return NONE_SUCH
        if not 1 <= flow <= MOST_WATER:
            return OUT_OF_RANGE
        before = self.stretches[number].flow
        self.stretches[number].flow = flow
        return before

    def set_rock(self, station, there):
        """Both ways of changing rock: they are refused alike and answer alike."""
        if not self.has_station(station):
            return NONE_SUCH
        if self.rocky[station] == there:
            return ALREADY_SO
        self.rocky[station] = there
        return self.rock_count()

    def price(self, station, cost):
        if not self.has_station(station):
            return NONE_SUCH
        if not 1 <= cost <= MOST_PRICE:
            return OUT_OF_RANGE
        before = self.prices[station]
        self.prices[station] = cost
        return before
