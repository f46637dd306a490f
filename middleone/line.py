"""The objects that the calls of one line are made on."""

from middleone.bounds import HIGHEST_STATION, MOST_STATIONS
from middleone.centre import Centre
from middleone.refusals import OUT_OF_BOUNDS
from middleone.station import Station


class Line:
    """Stations 0 to 3 and one centre, none of them started."""

    def __init__(self):
        self.stations = [None, None, None, None]
        self.centre = None

    def ks_start(self, place, me):
        """Start the station at place, anew if it was started before."""
        if me > HIGHEST_STATION:
            return [OUT_OF_BOUNDS]
        self.stations[place] = Station(me)
        return [0]

    def kc_start(self, stations):
        """Start the centre, anew if it was started before."""
        if stations < 1 or stations > MOST_STATIONS:
            return [OUT_OF_BOUNDS]
        self.centre = Centre(stations)
        return [0]
