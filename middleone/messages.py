"""The 20 bytes of a question and of an answer."""

from middleone.checksum import crc32c

QUESTION = 1
ANSWER = 2
SEARCH_AT = 4
ROUND_AT = 8
LAST_FIELD_AT = 12
CHECK_AT = 16
LAST_ROUND = 32


def four_bytes(number):
    """A number from 0 to 4294967295 as four bytes, the low one first."""
    return [number % 256, number // 256 % 256, number // 65536 % 256, number // 16777216]


def number_at(message, place):
    """The number whose four bytes begin at place, the low one first."""
    low = message[place] + 256 * message[place + 1]
    high = message[place + 2] + 256 * message[place + 3]
    return low + 65536 * high


def search_of(message):
    """The search that a message is of."""
    return number_at(message, SEARCH_AT)


def round_of(message):
    """The round that a message is of."""
    return number_at(message, ROUND_AT)


def x_of(question):
    """The number x of a question."""
    return number_at(question, LAST_FIELD_AT)


def has_right_check(message):
    """Whether the check is that of all before it."""
    return number_at(message, CHECK_AT) == crc32c(message[:CHECK_AT])


def has_right_search_and_round(message):
    """Whether the search and the round are ones that there can be."""
    return search_of(message) >= 1 and round_of(message) <= LAST_ROUND


def is_right_question(message):
    """Whether a message is a question, and right."""
    if message[:SEARCH_AT] != [QUESTION, 0, 0, 0]:
        return False
    return has_right_search_and_round(message) and has_right_check(message)


def written_answer(station, search, round_number, how_many):
    """The 20 bytes of a station's answer."""
    fields = four_bytes(search) + four_bytes(round_number) + four_bytes(how_many)
    unchecked = [ANSWER, station, 0, 0] + fields
    return unchecked + four_bytes(crc32c(unchecked))
