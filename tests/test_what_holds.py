"""What holds, over whole lines of stations and the centre together.

The messages are those that the program itself writes: each is carried from the
answer of one call into a later call, or is lost, doubled, late or spoilt on the way.
"""

import random
import unittest

from middleone.callreader import CallReader
from middleone.line import Line
from middleone.search import answer_of_next
from tests.lines import (
    TOP, answer, joined, kc_ask, kc_found, kc_heard, kc_say, kc_start, ks_add, ks_heard, ks_many, ks_start, made,
)


class Talk:
    """A line that is made call by call, as what is answered decides what is called next."""

    def __init__(self, stations):
        self.line = Line()
        self.calls = []
        self.size = 0
        self.given = []
        self.held = {}
        self.make(kc_start(stations))

    def make(self, call):
        answered = answer_of_next(CallReader(call), self.line)
        self.calls.append(call)
        self.size += len(call)
        self.given.append(answered)
        return answered

    def start(self, place, me, numbers):
        self.held[place] = []
        self.make(ks_start(me, place))
        for number in numbers:
            self.add(place, number)

    def add(self, place, number):
        self.make(ks_add(number, place))
        self.held[place].append(number)

    def search(self, k, far=()):
        """Search without loss; far are (me, numbers) of stations that are not in the line."""
        self.make(kc_ask(k))
        rounds = 0
        said = self.make(kc_say())
        while said[0] == 0 and rounds <= 33:
            search, round_number, x = fields(said[1:])
            told = [self.make(ks_heard(said[1:], place))[1:] for place in self.held]
            for me, numbers in far:
                told.append(answer(me, search, round_number, sum(number <= x for number in numbers)))
            for row in told:
                self.make(kc_heard(row))
            rounds += 1
            said = self.make(kc_say())
        return rounds, self.make(kc_found())


def fields(message):
    return tuple(int.from_bytes(bytes(message[place:place + 4]), "little") for place in (4, 8, 12))


class Holds(unittest.TestCase):
    def check_found(self, found, k, numbers):
        """In the document's own words, and by sorting."""
        if len(numbers) <= k:
            self.assertEqual(found, [-2], (k, numbers))
            return
        self.assertEqual((found[0], len(found)), (0, 2), (k, numbers))
        self.assertIn(found[1], numbers)
        self.assertLessEqual(sum(number < found[1] for number in numbers), k)
        self.assertGreater(sum(number <= found[1] for number in numbers), k)
        self.assertEqual(found[1], sorted(numbers)[k])

    def check_whole_line(self, talk):
        self.assertLessEqual(len(talk.calls), 5000)
        self.assertLessEqual(len(joined(talk.calls)), 30000)
        for place, row in enumerate(made(*talk.calls)):
            self.assertEqual(row, talk.given[place], f"call {place}")


class EveryK(Holds):
    def check_every_k(self, *of_each, far=(), ks=None):
        numbers = joined(of_each) + joined(numbers for _, numbers in far)
        for k in list(range(len(numbers) + 2)) + [TOP] if ks is None else ks:
            talk = Talk(len(of_each) + len(far))
            for place, held in enumerate(of_each):
                talk.start(place, place, held)
            rounds, found = talk.search(k, far)
            self.check_found(found, k, numbers)
            self.assertEqual(rounds, 33 if k < len(numbers) else 1)
            self.check_whole_line(talk)

    def test_no_numbers(self):
        self.check_every_k([])
        self.check_every_k([], [], [], [])

    def test_one_number(self):
        for number in (0, 1, 2147483647, 2147483648, TOP - 1, TOP):
            self.check_every_k([number])
            self.check_every_k([], [number], [])

    def test_equal_numbers(self):
        self.check_every_k([7, 7, 7], [7, 7])
        self.check_every_k([0, 0], [0], [TOP, TOP])
        self.check_every_k([5, 9, 5], [9, 5, 9], [5])

    def test_neighbours(self):
        self.check_every_k([4, 2], [3, 1])
        self.check_every_k([TOP, TOP - 2], [TOP - 1])
        self.check_every_k([2147483648], [2147483647], [2147483649, 2147483646])

    def test_least_and_greatest(self):
        self.check_every_k([0, TOP])
        self.check_every_k([TOP], [0])

    def test_numbers_of_all_sizes(self):
        chance = random.Random(20)
        for stations in (1, 2, 3, 4):
            of_each = [[chance.getrandbits(chance.randint(1, 32)) for _ in range(chance.randint(0, 5))]
                       for _ in range(stations)]
            self.check_every_k(*of_each)

    def test_16_stations(self):
        chance = random.Random(16)
        far = [(me, [chance.getrandbits(32) for _ in range(me % 4)]) for me in range(4, 16)]
        self.check_every_k([1, TOP], [], [50, 50], [2147483648], far=far, ks=(0, 1, 2, 3, 11, 21, 22, 23, 24, TOP))

    def test_a_full_station(self):
        numbers = [number * 1048576 for number in range(4095, -1, -1)]
        self.check_every_k(numbers, ks=(0, 1, 2047, 2048, 4095, 4096))

    def test_all_that_16_stations_can_hold(self):
        far = [(me, [me * 4096 + number for number in range(4096)]) for me in range(1, 16)]
        self.check_every_k(list(range(4096)), far=far, ks=(4095, 4096, 65535, 65536))

    def test_who_a_station_is_need_not_be_its_place(self):
        talk = Talk(3)
        for place, me, numbers in ((3, 0, [8, 6]), (0, 2, [7]), (2, 1, [])):
            talk.start(place, me, numbers)
        for k, found in enumerate(([0, 6], [0, 7], [0, 8], [-2])):
            self.assertEqual(talk.search(k)[1], found)
        self.check_whole_line(talk)


class OneSearchBehindAnother(Holds):
    def test_what_is_added_counts_in_the_next_search(self):
        talk = Talk(2)
        talk.start(0, 0, [10, 30])
        talk.start(1, 1, [20])
        self.assertEqual(talk.search(2), (33, [0, 30]))
        talk.add(0, 5)
        talk.add(1, 25)
        self.assertEqual(talk.make(ks_many(0)), [0, 2, 1])
        self.assertEqual(talk.search(2), (33, [0, 20]))
        self.assertEqual(talk.make(ks_many(0)), [0, 3, 0])
        self.assertEqual(talk.search(4), (33, [0, 30]))
        self.assertEqual(talk.search(5), (1, [-2]))
        talk.add(1, 1)
        self.assertEqual(talk.search(5), (33, [0, 30]))
        self.assertEqual(talk.make(ks_many(1)), [0, 3, 0])
        self.check_whole_line(talk)

    def test_added_while_a_search_goes_on(self):
        for k, first, second in ((0, 10, 1), (1, 20, 2), (2, 30, 2), (3, 40, 10)):
            talk = Talk(2)
            talk.start(0, 0, [10, 30])
            talk.start(1, 1, [20])
            talk.make(kc_ask(k))
            for round_number in range(33):
                asked = talk.make(kc_say())[1:]
                told = talk.make(ks_heard(asked, 0))[1:]
                if round_number == 0:
                    # Station 0 has heard of the search, station 1 has not.
                    talk.add(0, 1)
                    talk.add(1, 40)
                talk.make(kc_heard(told))
                talk.make(kc_heard(talk.make(ks_heard(asked, 1))[1:]))
                if round_number in (0, 20):
                    talk.add(1, 2)
            self.assertEqual(talk.make(kc_found()), [0, first])
            self.assertEqual([talk.make(ks_many(place)) for place in (0, 1)], [[0, 2, 1], [0, 2, 2]])
            self.assertEqual(talk.search(k), (33, [0, second]))
            self.check_whole_line(talk)

    def test_search_given_up_for_another(self):
        talk = Talk(2)
        talk.start(0, 0, [10, 30])
        talk.start(1, 1, [20])
        talk.make(kc_ask(0))
        old = talk.make(kc_say())[1:]
        told = talk.make(ks_heard(old, 0))[1:]
        talk.add(0, 4)
        self.assertEqual(talk.search(0), (33, [0, 4]))
        self.assertEqual(talk.make(kc_heard(told)), [0])
        self.assertEqual(talk.make(ks_heard(old, 1)), [-13])
        self.assertEqual(talk.make(kc_found()), [0, 4])
        self.check_whole_line(talk)


class BadWire(Talk):
    """A talk whose messages are lost, doubled, late and spoilt, while numbers are added."""

    def __init__(self, stations, chance):
        Talk.__init__(self, stations)
        self.chance = chance
        self.under_way = []
        self.k = None
        self.asked = 0
        # By search and place: what a station held when it first heard of the search.
        self.first_heard = {}
        self.last_heard = {}

    def send(self, message, place=None):
        """To the station at place, or to the centre: not at all, once, twice or thrice."""
        for _ in range(self.chance.choice((0, 1, 1, 2, 3))):
            self.under_way.append((message, place))

    def ask(self, k):
        self.make(kc_ask(k))
        self.k = k
        self.asked += 1

    def say(self):
        said = self.make(kc_say())
        for place in self.held:
            if said[0] == 0:
                self.send(said[1:], place)

    def deliver(self):
        """Any message that is under way, so an old one may well come behind a new one."""
        if self.under_way:
            place = self.chance.randrange(len(self.under_way))
            message, receiver = self.under_way.pop(place)
            if receiver is None:
                self.make(kc_heard(message))
            else:
                self.hear(message, receiver)

    def hear(self, message, place):
        search = fields(message)[0]
        answered = self.make(ks_heard(message, place))
        if answered[0] >= 0:
            self.first_heard.setdefault((search, place), list(self.held[place]))
            self.last_heard[place] = search
            self.send(answered[1:])

    def spoil(self):
        if self.under_way:
            message, receiver = self.chance.choice(self.under_way)
            spoilt = list(message)
            spoilt[self.chance.randrange(20)] ^= 1 << self.chance.randrange(8)
            self.make(kc_heard(spoilt) if receiver is None else ks_heard(spoilt, receiver))
            return self.given[-1]
        return [-71]


class WhateverIsLost(Holds):
    def begun(self, seed):
        chance = random.Random(seed)
        stations = 1 + seed % 4
        talk = BadWire(stations, chance)
        for place in range(stations):
            talk.start(place, place, [chance.getrandbits(chance.choice((2, 32))) for _ in range(chance.randrange(6))])
        return talk

    def check_many(self, talk, place):
        """Nothing is lost: all that was added counts, or is later."""
        held = len(talk.held[place])
        counting = held
        if place in talk.last_heard:
            counting = len(talk.first_heard[talk.last_heard[place], place])
        self.assertEqual(talk.make(ks_many(place)), [0, counting, held - counting])

    def check_moment(self, talk):
        """Of one moment each: what each held when it first heard of the search."""
        found = talk.make(kc_found())
        if found != [-11]:
            counted = joined(talk.first_heard[talk.asked, place] for place in talk.held)
            self.check_found(found, talk.k, counted)
        return found

    def take_step(self, talk):
        step = talk.chance.random()
        place = talk.chance.randrange(len(talk.held))
        if step < 0.15:
            talk.say()
        elif step < 0.80:
            talk.deliver()
        elif step < 0.90:
            talk.add(place, talk.chance.getrandbits(talk.chance.choice((2, 32))))
        elif step < 0.93:
            self.assertEqual(talk.spoil(), [-71])
        else:
            self.check_many(talk, place)

    def searched(self, talk, k, room):
        """Go on until a search is over or there is no room left for it in the line."""
        talk.ask(k)
        found = [-11]
        while found == [-11] and talk.size < room:
            self.take_step(talk)
            # What was said long ago would keep the new from coming through.
            talk.under_way = talk.under_way[-20:]
            found = self.check_moment(talk)
        return found

    def test_what_is_found_is_of_one_moment_each(self):
        ends = []
        for seed in range(24):
            talk = self.begun(seed)
            together = sum(len(held) for held in talk.held.values())
            ends.append(self.searched(talk, talk.chance.randint(0, together), 29000)[0])
            self.check_whole_line(talk)
        self.assertGreaterEqual(ends.count(0), 10, ends)
        self.assertGreaterEqual(ends.count(-2), 1, ends)

    def test_given_up_searches_disturb_nothing(self):
        ends = []
        for seed in range(12):
            talk = self.begun(seed)
            for k in (0, 1, 0):
                talk.ask(k)
                for _ in range(talk.chance.randrange(60)):
                    self.take_step(talk)
            ends.append(self.searched(talk, talk.chance.randrange(5), 29000)[0])
            self.check_whole_line(talk)
        self.assertGreaterEqual(ends.count(0), 4, ends)

    def test_what_was_added_counts_in_the_next_search(self):
        for seed in range(12):
            talk = self.begun(seed)
            self.searched(talk, 0, 20000)
            numbers = joined(talk.held.values())
            k = talk.chance.randrange(len(numbers) + 1)
            self.check_found(talk.search(k)[1], k, numbers)
            for place, held in talk.held.items():
                self.assertEqual(talk.make(ks_many(place)), [0, len(held), 0])
            self.check_whole_line(talk)


if __name__ == "__main__":
    unittest.main()
