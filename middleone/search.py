"""The calls of one line, answered one after another."""

from middleone.callreader import CallReader
from middleone.line import Line

KS_START = 0
KS_ADD = 1
KS_HEARD = 2
KS_MANY = 3
KC_START = 4


class UnknownCall(ValueError):
    """A call has a number that no call here has."""


def answer_of_next(reader, line):
    """Make the next call, and give back the numbers that it answers."""
    call = reader.take_number()
    place = reader.take_number()
    if call == KS_START:
        return line.ks_start(place, reader.take_number())
    if call == KS_ADD:
        return line.stations[place].ks_add(reader.take_number())
    if call == KS_HEARD:
        return line.stations[place].ks_heard(reader.take_row())
    if call == KS_MANY:
        return line.stations[place].ks_many()
    if call == KC_START:
        return line.kc_start(reader.take_number())
    raise UnknownCall(f"no call has the number {call}")


def answers(calls):
    """For each call, in order: how many numbers are answered, then these."""
    reader = CallReader(calls)
    line = Line()
    given = []
    while reader.has_more():
        answered = answer_of_next(reader, line)
        given.append(len(answered))
        given.extend(answered)
    return given
