"""The 20 bytes of a question and of an answer."""

from middleone.bounds import HIGHEST_STATION, LAST_ROUND, MOST_NUMBERS
from middleone.checksum import crc32c

QUESTION = 1
ANSWER = 2
STATION_AT = 1
SEARCH_AT = 4
ROUND_AT = 8
LAST_FIELD_AT = 12
CHECK_AT = 16


def four_bytes(number):
    """A number from 0 to 4294967295 as four bytes, the low one first."""
    return [number % 256, number // 256 % 256, number // 65536 % 256, number // 16777216]


def number_at(message, place):
    """The number whose four bytes begin at place, the low one first."""
    low = message[place] + 256 * message[place + 1]
    high = message[place + 2] + 256 * message[place + 3]
    return low + 65536 * high


def station_of(answer):
    """The station that an answer is of."""
    return answer[STATION_AT]


def search_of(message):
    """The search that a message is of."""
    return number_at(message, SEARCH_AT)


def round_of(message):
    """The round that a message is of."""
    return number_at(message, ROUND_AT)


def x_of(question):
    """The number x of a question."""
    return number_at(question, LAST_FIELD_AT)


def how_many_of(answer):
    """How many numbers an answer tells of."""
    return number_at(answer, LAST_FIELD_AT)


def has_right_check(message):
    """Whether the check is that of all before it."""
    return number_at(message, CHECK_AT) == crc32c(message[:CHECK_AT])


def has_right_search_and_round(message):
    """Whether the search and the round are ones that there can be."""
    return search_of(message) >= 1 and round_of(message) <= LAST_ROUND


def is_right_question(message):
    """Whether a message is a question, and right."""
    if message[:SEARCH_AT] != [QUESTION, 0, 0, 0]:
        return False
    return has_right_search_and_round(message) and has_right_check(message)


def is_right_answer(message):
    """Whether a message is an answer, and right."""
    station = station_of(message)
    if message[:SEARCH_AT] != [ANSWER, station, 0, 0] or station > HIGHEST_STATION:
        return False
    if how_many_of(message) > MOST_NUMBERS:
        return False
    return has_right_search_and_round(message) and has_right_check(message)


def written(head, search, round_number, last_field):
    """The 20 bytes of a message whose first four are head."""
    unchecked = head + four_bytes(search) + four_bytes(round_number) + four_bytes(last_field)
    return unchecked + four_bytes(crc32c(unchecked))


def written_question(search, round_number, x):
    """The 20 bytes of a question of the centre."""
    return written([QUESTION, 0, 0, 0], search, round_number, x)


def written_answer(station, search, round_number, how_many):
    """The 20 bytes of a station's answer."""
    return written([ANSWER, station, 0, 0], search, round_number, how_many)
