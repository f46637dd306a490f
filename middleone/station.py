"""A station: it holds numbers, and tells only how many of them are at most x."""

from middleone.bounds import MOST_NUMBERS
from middleone.messages import is_right_question, round_of, search_of, written_answer, x_of
from middleone.refusals import NO_ROOM, NOT_RIGHT, SEARCH_IS_OLD


class Station:
    """A station that has just been started. Each call answers a list of numbers."""

    def __init__(self, me):
        self.me = me
        self.counting = []
        self.later = []
        # Searches are numbered from 1 on, so 0 stands for none heard of yet.
        self.last_search = 0

    def ks_add(self, x):
        """Take in one more number."""
        if len(self.counting) + len(self.later) >= MOST_NUMBERS:
            return [NO_ROOM]
        if self.last_search == 0:
            self.counting.append(x)
        else:
            self.later.append(x)
        return [0]

    def ks_heard(self, question):
        """Answer a question, if it is right and not of an old search."""
        if not is_right_question(question):
            return [NOT_RIGHT]
        search = search_of(question)
        if search < self.last_search:
            return [SEARCH_IS_OLD]
        self.hear_of(search)
        how_many = self.how_many_at_most(x_of(question))
        return [how_many] + written_answer(self.me, search, round_of(question), how_many)

    def ks_many(self):
        """Tell how many numbers count and how many came later."""
        return [0, len(self.counting), len(self.later)]

    def hear_of(self, search):
        """Let what came later count, if the search is a new one."""
        # A search that is heard of again must find the same numbers as at first.
        if search > self.last_search:
            self.last_search = search
            self.counting.extend(self.later)
            self.later = []

    def how_many_at_most(self, x):
        """How many of the numbers that count are at most x."""
        return len([number for number in self.counting if number <= x])
