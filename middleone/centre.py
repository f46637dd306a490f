"""The centre: it asks the stations and finds the k-th of all their numbers."""


class Centre:
    """A centre that has just been started: it has had no search yet."""

    def __init__(self, stations):
        self.stations = stations
        # How many searches there were is also the number of the last one.
        self.searches = 0
