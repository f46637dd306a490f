"""The calls of one line, answered one after another."""

from middleone.callreader import CallReader
from middleone.line import Line

KS_START = 0
KS_ADD = 1
KS_HEARD = 2
KS_MANY = 3
KC_START = 4
KC_ASK = 5
KC_SAY = 6
KC_HEARD = 7
KC_FOUND = 8


class UnknownCall(ValueError):
    """A call has a number that no call here has."""


def answer_of_station(call, station, reader):
    """Make a call on a station that was started."""
    if call == KS_ADD:
        return station.ks_add(reader.take_number())
    if call == KS_HEARD:
        return station.ks_heard(reader.take_row())
    return station.ks_many()


def answer_of_centre(call, centre, reader):
    """Make a call on a centre that was started."""
    if call == KC_ASK:
        return centre.kc_ask(reader.take_number())
    if call == KC_SAY:
        return centre.kc_say()
    if call == KC_HEARD:
        return centre.kc_heard(reader.take_row())
    return centre.kc_found()


def answer_of_next(reader, line):
    """Make the next call, and give back the numbers that it answers."""
    call = reader.take_number()
    place = reader.take_number()
    if call == KS_START:
        return line.ks_start(place, reader.take_number())
    if call == KC_START:
        return line.kc_start(reader.take_number())
    if call in (KS_ADD, KS_HEARD, KS_MANY):
        return answer_of_station(call, line.stations[place], reader)
    if call in (KC_ASK, KC_SAY, KC_HEARD, KC_FOUND):
        return answer_of_centre(call, line.centre, reader)
    raise UnknownCall(f"no call has the number {call}")


def answers(calls):
    """For each call, in order: how many numbers are answered, then these."""
    reader = CallReader(calls)
    line = Line()
    given = []
    while reader.has_more():
        answered = answer_of_next(reader, line)
        given.append(len(answered))
        given.extend(answered)
    return given
