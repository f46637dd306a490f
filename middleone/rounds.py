"""One search of the centre, round by round."""

from middleone.bounds import GREATEST_NUMBER


class Search:
    """A search for the k-th number of all stations that begins with round 0."""

    def __init__(self, number, k, stations):
        self.number = number
        self.k = k
        self.stations = stations
        self.round_number = 0
        self.lo = 0
        self.hi = GREATEST_NUMBER
        # Kept by station, so that none counts twice in a round.
        self.told = {}
        self.over = False
        # A search that is over with None here: there aren't so many numbers.
        self.found = None

    def asked_x(self):
        """The x of this round."""
        if self.round_number == 0:
            return GREATEST_NUMBER
        return (self.lo + self.hi) // 2

    def waits_for(self, search, round_number, station):
        """Whether an answer of this search, round and station counts, while the search goes on."""
        if search != self.number or round_number != self.round_number:
            return False
        return station < self.stations and station not in self.told

    def keep(self, station, how_many):
        """Keep what a station told, and go on once all have."""
        self.told[station] = how_many
        if len(self.told) == self.stations:
            self.end_round(sum(self.told.values()) > self.k)

    def end_round(self, more_than_k):
        """Go on to the next round, unless the search is over now."""
        if self.round_number == 0:
            self.over = not more_than_k
        else:
            self.halve(more_than_k)
        if not self.over:
            self.round_number = self.round_number + 1
            self.told = {}

    def halve(self, more_than_k):
        """Leave the half that the number lies in."""
        x = self.asked_x()
        if more_than_k:
            self.hi = x
        else:
            self.lo = x + 1
        if self.lo == self.hi:
            self.found = self.lo
            self.over = True
