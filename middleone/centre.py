"""The centre: it asks the stations and finds the k-th of all their numbers."""

from middleone.bounds import MOST_SEARCHES
from middleone.messages import how_many_of, is_right_answer, round_of, search_of, station_of, written_question
from middleone.refusals import NO_ROOM, NOT_NOW, NOT_RIGHT, NOT_SO_MANY
from middleone.rounds import Search


class Centre:
    """A centre that has just been started. Each call answers a list of numbers."""

    def __init__(self, stations):
        self.stations = stations
        # How many searches there were is also the number of the last one.
        self.searches = 0
        self.last_begun = None

    def kc_ask(self, k):
        """Begin a search for the k-th number."""
        if self.searches >= MOST_SEARCHES:
            return [NO_ROOM]
        self.searches = self.searches + 1
        # A search that went on is over by this: nothing reads it any more.
        self.last_begun = Search(self.searches, k, self.stations)
        return [0]

    def kc_say(self):
        """Tell the question of this round."""
        if not self.is_searching():
            return [NOT_NOW]
        search = self.last_begun
        return [0] + written_question(search.number, search.round_number, search.asked_x())

    def kc_heard(self, answer):
        """Take in an answer, if it is right; tell whether it counts."""
        if not is_right_answer(answer):
            return [NOT_RIGHT]
        if not self.is_searching():
            return [0]
        station = station_of(answer)
        if not self.last_begun.waits_for(search_of(answer), round_of(answer), station):
            return [0]
        self.last_begun.keep(station, how_many_of(answer))
        return [1]

    def kc_found(self):
        """Tell the number that the last search found."""
        if self.last_begun is None or self.is_searching():
            return [NOT_NOW]
        if self.last_begun.found is None:
            return [NOT_SO_MANY]
        return [0, self.last_begun.found]

    def is_searching(self):
        """Whether a search goes on."""
        return self.last_begun is not None and not self.last_begun.over
