"""What is known of one road, and the calls that change it."""

from linelaid.limits import FEWEST_STATIONS, MOST_STATIONS, STEEPEST, are_heights, is_height, is_price
from linelaid.refusals import AN_END, NO_STATION, NONE_TOLD, OUT_OF_RANGE


class Road:
    """The ground, the told heights (None: none is told), the grade and both prices.

    Each method that changes it answers as its call does: a list of numbers, or a refusal's number alone.
    """

    def __init__(self):
        self.ground = []
        self.told = []
        self.grade = 1
        self.cut_price = 1
        self.fill_price = 1

    def begun(self):
        # Ground that was taken has at least two stations, so none stands for a road not begun.
        return len(self.ground) > 0

    def begin(self, heights):
        # The length goes first, so that a very long row isn't walked.
        if not FEWEST_STATIONS <= len(heights) <= MOST_STATIONS or not are_heights(heights):
            return [OUT_OF_RANGE]
        self.ground = list(heights)
        self.told = [None for height in heights]
        self.told[0] = heights[0]
        self.told[-1] = heights[-1]
        self.grade = 1
        self.cut_price = 1
        self.fill_price = 1
        return [len(heights)]

    def tell_ends(self, first, last):
        if not is_height(first) or not is_height(last):
            return [OUT_OF_RANGE]
        before = [self.told[0], self.told[-1]]
        self.told[0] = first
        self.told[-1] = last
        return before

    def change_grade(self, grade):
        if grade > STEEPEST:
            return [OUT_OF_RANGE]
        before = self.grade
        self.grade = grade
        return [before]

    def change_prices(self, cut_price, fill_price):
        if not is_price(cut_price) or not is_price(fill_price):
            return [OUT_OF_RANGE]
        before = [self.cut_price, self.fill_price]
        self.cut_price = cut_price
        self.fill_price = fill_price
        return before

    def change_ground(self, station, height):
        if not self.has_station(station):
            return [NO_STATION]
        if not is_height(height):
            return [OUT_OF_RANGE]
        before = self.ground[station]
        self.ground[station] = height
        return [before]

    def fix(self, station, height):
        if not self.has_station(station):
            return [NO_STATION]
        if self.is_end(station):
            return [AN_END]
        if not is_height(height):
            return [OUT_OF_RANGE]
        before = self.one_more_than_told(station)
        self.told[station] = height
        return [before]

    def free(self, station):
        if not self.has_station(station):
            return [NO_STATION]
        if self.is_end(station):
            return [AN_END]
        before = self.told[station]
        if before is None:
            return [NONE_TOLD]
        self.told[station] = None
        return [before]

    def copied(self):
        """Another road like this one: what would be is asked of it, so that this one stays as it is."""
        other = Road()
        other.ground = list(self.ground)
        other.told = list(self.told)
        other.grade = self.grade
        other.cut_price = self.cut_price
        other.fill_price = self.fill_price
        return other

    def told_stations(self):
        return [station for station, height in enumerate(self.told) if height is not None]

    def one_more_than_told(self, station):
        # A told height of 0 must differ from none told.
        told = self.told[station]
        return 0 if told is None else told + 1

    def has_station(self, station):
        return station < len(self.ground)

    def is_end(self, station):
        return station == 0 or station == len(self.ground) - 1
