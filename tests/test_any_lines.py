"""Lines of calls 0 to 8 in any order, against a second reading of the document.

The second reading keeps as little as it can: of a station each number with the
search that was the last heard of as it came, of the centre's search whether
all answers together were more than k, round by round. All else is read off these.
"""

import random
import unittest

from tests.lines import (
    TOP, answer, crc, joined, kc_ask, kc_found, kc_heard, kc_say, kc_start, ks_add, ks_heard, ks_many, ks_start, made,
    message, question,
)

REACHED = {
    (0, 0), (0, -22), (1, 0), (2, -71), (2, -13), (2, 0), (2, 1), (3, 0), (4, 0), (4, -22), (5, 0), (6, 0), (6, -11),
    (7, -71), (7, 0), (7, 1), (8, 0), (8, -2), (8, -11),
}


def field(row, place):
    return int.from_bytes(bytes(row[place:place + 4]), "little")


def is_right(row):
    return crc(row[:16]) == field(row, 16) and field(row, 4) > 0 and field(row, 8) < 33


class StationRead:
    def __init__(self, me):
        self.me = me
        self.last = 0
        self.added = []

    def counting(self):
        return [x for x, last in self.added if last < max(self.last, 1)]

    def heard(self, row):
        if row[:4] != [1, 0, 0, 0] or not is_right(row):
            return [-71]
        if field(row, 4) < self.last:
            return [-13]
        self.last = field(row, 4)
        how_many = sum(x <= field(row, 12) for x in self.counting())
        return [how_many] + answer(self.me, self.last, field(row, 8), how_many)


class CentreRead:
    def __init__(self, stations):
        self.stations = stations
        self.search = 0
        self.k = None
        self.past = [False]
        self.told = {}

    def goes_on(self):
        return self.past[:1] != [False] and len(self.past) < 33

    def settled(self):
        """The bits of the number that are known: each round but 0 settles one."""
        number = 0
        for more_than_k in self.past[1:]:
            number = 2 * number + (not more_than_k)
        return number

    def ask(self, k):
        self.search += 1
        self.k = k
        self.past = []
        self.told = {}
        return [0]

    def say(self):
        if not self.goes_on():
            return [-11]
        open_bits = 32 - max(len(self.past) - 1, 0)
        half = TOP if not self.past else (self.settled() << open_bits) + (1 << open_bits - 1) - 1
        return [0] + question(self.search, len(self.past), half)

    def heard(self, row):
        if row[0] != 2 or row[1] > 15 or row[2] or row[3] or field(row, 12) > 4096 or not is_right(row):
            return [-71]
        if not self.goes_on() or (field(row, 4), field(row, 8)) != (self.search, len(self.past)):
            return [0]
        if row[1] >= self.stations or row[1] in self.told:
            return [0]
        self.told[row[1]] = field(row, 12)
        if len(self.told) == self.stations:
            self.past.append(sum(self.told.values()) > self.k)
            self.told = {}
        return [1]

    def found(self):
        if self.search and self.past == [False]:
            return [-2]
        return [0, self.settled()] if len(self.past) == 33 else [-11]


class Reading:
    """What the document asks each call of one line to answer."""

    def __init__(self):
        self.stations = {}
        self.centre = None

    def answered(self, call):
        if call[0] == 0:
            if call[2] > 15:
                return [-22]
            self.stations[call[1]] = StationRead(call[2])
            return [0]
        if call[0] == 4:
            if call[2] not in range(1, 17):
                return [-22]
            self.centre = CentreRead(call[2])
            return [0]
        return self.of_station(call) if call[0] < 4 else self.of_centre(call)

    def of_station(self, call):
        station = self.stations[call[1]]
        if call[0] == 1:
            station.added.append((call[2], station.last))
            return [0]
        if call[0] == 2:
            return station.heard(call[3:])
        counting = len(station.counting())
        return [0, counting, len(station.added) - counting]

    def of_centre(self, call):
        if call[0] == 5:
            return self.centre.ask(call[2])
        if call[0] == 6:
            return self.centre.say()
        if call[0] == 7:
            return self.centre.heard(call[3:])
        return self.centre.found()


class Writer:
    """Writes calls that are likely to lead somewhere, and some that are not."""

    def __init__(self, seed):
        self.chance = random.Random(seed)
        self.reading = Reading()

    def near(self, number):
        return max(0, number + self.chance.choice((0,) * 12 + (-2, -1, 1, 2)))

    def number(self):
        return self.chance.choice((0, 1, 2, 3, TOP, self.chance.getrandbits(32)))

    def spoilt(self, row):
        if self.chance.random() < 0.1:
            row[self.chance.randrange(20)] ^= 1 << self.chance.randrange(8)
        if self.chance.random() < 0.1:
            return message([self.near(byte) for byte in row[:4]], field(row, 4), self.near(field(row, 8)), field(row, 12))
        return row

    def asked(self):
        centre = self.reading.centre
        return self.spoilt(question(self.near(centre.search), self.near(len(centre.past)), self.number()))

    def told(self):
        centre = self.reading.centre
        station = self.near(self.chance.randrange(centre.stations))
        how_many = self.chance.choice((0, 1, 2, centre.k or 0, self.chance.randrange(4100))) % 4100
        return self.spoilt(answer(station, self.near(centre.search), self.near(len(centre.past)), how_many))

    def call(self):
        place = self.chance.randrange(4)
        rare = self.chance.random()
        if rare < 0.004:
            return kc_start(self.chance.choice((0, 1, 1, 2, 3, 16, 17, TOP)))
        if rare < 0.02:
            return ks_start(self.chance.choice((0, 1, 2, 15, 16, TOP)), place)
        if rare < 0.03:
            return kc_ask(self.chance.choice((0, 0, 1, 1, 2, self.number())))
        return self.chance.choice((
            lambda: ks_add(self.number(), place), lambda: ks_many(place), kc_say, kc_found,
            lambda: ks_heard(self.asked(), place), *[lambda: kc_heard(self.told())] * 5,
        ))()

    def line(self, length):
        calls = [ks_start(place, place) for place in range(4)] + [kc_start(self.chance.choice((1, 1, 2, 4)))]
        given = [self.reading.answered(call) for call in calls]
        while len(calls) < length:
            calls.append(self.call())
            given.append(self.reading.answered(calls[-1]))
        return calls, given


class AnyLines(unittest.TestCase):
    def test_lines_in_any_order(self):
        reached = set()
        for seed in range(60):
            calls, expected = Writer(seed).line(700)
            self.assertLessEqual(len(joined(calls)), 30000)
            for place, row in enumerate(made(*calls)):
                self.assertEqual(row, expected[place], (seed, place, calls[place]))
                reached.add((calls[place][0], row[0]))
        self.assertEqual(REACHED - reached, set())


if __name__ == "__main__":
    unittest.main()
