"""A table from its text, or the text's first fault; a measure from its writing.

Each take_... goes over what it takes and raises the first fault in it.
"""

from offsettables.layout import FEWEST, MOST_LEVELS, MOST_STATIONS, Table
from offsettables.measures import EIGHTH, FOOT, INCH, LARGEST, is_measure

SHAPE = 1
NO_MEASURE = 2
NOT_RISING = 3
COUNT = 4

LINE_END = 10
BLANK = 32
PLUS = 43
DASH = 45
ZERO = 48
COLON = 58
# Stands for the text's end: no byte is as large, so it's a fault wherever some byte is asked for.
NO_BYTE = 256

MOST_FEET = 5461
MOST_INCHES = 11
MOST_EIGHTHS = 7


class Fault(Exception):
    def __init__(self, kind, place):
        self.kind = kind
        self.place = place


class Cursor:
    def __init__(self, text):
        self.text = text
        self.place = 0

    def byte(self):
        if self.place == len(self.text):
            return NO_BYTE
        return self.text[self.place]

    def advance(self):
        self.place += 1


def is_digit(byte):
    return ZERO <= byte <= ZERO + 9


def take_byte(cursor, byte):
    if cursor.byte() != byte:
        raise Fault(SHAPE, cursor.place)
    cursor.advance()


def take_word(cursor, word):
    for sign in word:
        take_byte(cursor, ord(sign))


def take_if_there(cursor, byte):
    if cursor.byte() != byte:
        return False
    cursor.advance()
    return True


def take_digit(cursor):
    byte = cursor.byte()
    if not is_digit(byte):
        raise Fault(SHAPE, cursor.place)
    cursor.advance()
    return byte - ZERO


# Behind a first 0 of feet or inches no digit is taken: the dash is asked for there.
def take_feet(cursor):
    feet = take_digit(cursor)
    while feet > 0 and is_digit(cursor.byte()):
        # Feet may have thousands of digits: above the bound, how far above is all one.
        feet = min(feet * 10 + take_digit(cursor), MOST_FEET + 1)
    return feet


def take_inches(cursor):
    inches = take_digit(cursor)
    if inches > 0 and is_digit(cursor.byte()):
        inches = inches * 10 + take_digit(cursor)
    return inches


def check_whole(cursor):
    byte = cursor.byte()
    if byte == NO_BYTE or byte == PLUS or is_digit(byte):
        raise Fault(SHAPE, cursor.place)


# least: heights may be below 0, places and half-breadths may not.
def take_measure(cursor, least):
    first = cursor.place
    below = take_if_there(cursor, DASH)
    feet = take_feet(cursor)
    take_byte(cursor, DASH)
    inches = take_inches(cursor)
    take_byte(cursor, DASH)
    eighths = take_digit(cursor)
    more = 1 if take_if_there(cursor, PLUS) else 0
    # What the measure is worth is asked only now: a fault of shape in it goes before.
    check_whole(cursor)
    if feet > MOST_FEET or inches > MOST_INCHES or eighths > MOST_EIGHTHS:
        raise Fault(NO_MEASURE, first)
    size = feet * FOOT + inches * INCH + eighths * EIGHTH + more
    measure = -size if below else size
    if (below and size == 0) or not is_measure(measure, least):
        raise Fault(NO_MEASURE, first)
    return measure


def take_rising(cursor, least, before):
    first = cursor.place
    measure = take_measure(cursor, least)
    if len(before) > 0 and measure <= before[-1]:
        raise Fault(NOT_RISING, first)
    return measure


def take_blank(cursor, count, most):
    if count == most:
        raise Fault(COUNT, cursor.place)
    take_byte(cursor, BLANK)


def take_line_end(cursor, count, fewest):
    if cursor.byte() == LINE_END and count < fewest:
        raise Fault(COUNT, cursor.place)
    take_byte(cursor, LINE_END)


def take_stations(cursor):
    places = []
    take_word(cursor, "stations")
    while cursor.byte() == BLANK:
        take_blank(cursor, len(places), MOST_STATIONS)
        places.append(take_rising(cursor, 0, places))
    take_line_end(cursor, len(places), FEWEST)
    return places


def take_height(cursor, heights):
    take_word(cursor, "level")
    take_byte(cursor, BLANK)
    height = take_rising(cursor, -LARGEST, heights)
    take_byte(cursor, COLON)
    return height


def take_half_breadths(cursor, stations):
    row = []
    while cursor.byte() == BLANK:
        take_blank(cursor, len(row), stations)
        row.append(take_measure(cursor, 0))
    take_line_end(cursor, len(row), stations)
    return row


def table_of(text):
    cursor = Cursor(text)
    places = take_stations(cursor)
    heights = []
    half_breadths = []
    while cursor.byte() != NO_BYTE:
        if len(heights) == MOST_LEVELS:
            raise Fault(COUNT, cursor.place)
        heights.append(take_height(cursor, heights))
        half_breadths.extend(take_half_breadths(cursor, len(places)))
    if len(heights) < FEWEST:
        raise Fault(COUNT, cursor.place)
    return Table(places, heights, half_breadths)


# A measure is whole only where a byte stands behind it, so one is put there that no measure goes on with.
def measure_of(text):
    cursor = Cursor(text + [LINE_END])
    measure = take_measure(cursor, -LARGEST)
    if cursor.place < len(text):
        raise Fault(SHAPE, cursor.place)
    return measure
