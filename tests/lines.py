"""Builds lines of calls and messages for the tests, and splits what is answered.

The check is reckoned here in another way than in the program (from the high bit,
with the polynomial turned round, by a table), so that one does not stand for the other.
"""

from middleone.search import answers

TOP = 4294967295


def reversed_bits(number, width):
    return int(format(number, f"0{width}b")[::-1], 2)


def remainder(byte):
    rest = byte << 24
    for _ in range(8):
        rest = (rest << 1) ^ (0x11EDC6F41 if rest >> 31 else 0)
    return rest


TURNED = [reversed_bits(byte, 8) for byte in range(256)]
REMAINDERS = [remainder(byte) for byte in range(256)]


def crc(numbers):
    check = TOP
    for byte in numbers:
        check = ((check << 8) & TOP) ^ REMAINDERS[(check >> 24) ^ TURNED[byte]]
    return reversed_bits(check ^ TOP, 32)


def checked(sixteen):
    return list(sixteen) + list(crc(sixteen).to_bytes(4, "little"))


def message(head, search, round_number, last):
    fields = b"".join(field.to_bytes(4, "little") for field in (search, round_number, last))
    return checked(list(head) + list(fields))


def question(search=1, round_number=0, x=TOP):
    return message([1, 0, 0, 0], search, round_number, x)


def answer(station, search, round_number, how_many):
    return message([2, station, 0, 0], search, round_number, how_many)


def ks_start(me, station=0):
    return [0, station, me]


def ks_add(x, station=0):
    return [1, station, x]


def ks_heard(asked, station=0):
    return [2, station, len(asked)] + asked


def ks_many(station=0):
    return [3, station]


def kc_start(stations):
    return [4, 0, stations]


def kc_ask(k):
    return [5, 0, k]


def kc_say():
    return [6, 0]


def kc_heard(answered):
    return [7, 0, len(answered)] + answered


def kc_found():
    return [8, 0]


def x_towards(number, round_number):
    """The x of a round in a search that will find number.

    From round 1 on each round settles one bit of it, the highest first: the
    bits settled so far, a 0, and ones stand for the half of lo and hi.
    """
    if round_number == 0:
        return TOP
    open_bits = 33 - round_number
    return (number >> open_bits << open_bits) + 2 ** (open_bits - 1) - 1


def told_towards(number, round_number, search=1, stations=1):
    """Answers of all stations that lead a search for k = 0 on to number."""
    how_many = int(number <= x_towards(number, round_number))
    told = [answer(0, search, round_number, how_many)]
    return told + [answer(station, search, round_number, 0) for station in range(1, stations)]


def heard_towards(number, rounds=33, search=1, stations=1):
    """The calls by which a centre hears all that is told in the first rounds."""
    told = [told_towards(number, round_number, search, stations) for round_number in range(rounds)]
    return [kc_heard(answered) for row in told for answered in row]


def joined(rows):
    return [number for row in rows for number in row]


def split(given):
    rows = []
    place = 0
    while place < len(given):
        length = given[place]
        rows.append(given[place + 1:place + 1 + length])
        # A wrong count must end the test, not lead back to where it was read.
        if length < 1 or len(rows[-1]) != length:
            raise AssertionError(f"at {place} it is told that {length} numbers are answered")
        place += 1 + length
    return rows


def made(*calls):
    """What each of the calls answers, made one after another in one line."""
    return split(answers(joined(calls)))


def last_made(*calls):
    return made(*calls)[-1]
