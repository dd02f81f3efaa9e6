"""The calls on one object, which has a table or none, and their answers."""

from offsettables.layout import Table
from offsettables.making import lists_fault
from offsettables.measures import LARGEST, is_measure
from offsettables.reading import Fault, measure_of, table_of
from offsettables.writing import text_of, writing_of

READ = 1
MAKE = 2
TEXT = 3
NUMBERS = 4
AT = 5
SET = 6
WRITE = 7
VALUE = 8

OUT_OF_BOUNDS = -1
NOT_THERE = -4
NO_TABLE = -5
NO_WRITING = -6

MOST_BYTES = 20000


class UnknownCall(ValueError):
    pass


class Keeper:
    def __init__(self):
        self.table = None


class Handed:
    def __init__(self, calls):
        self.calls = calls
        self.place = 0

    def has_more(self):
        return self.place < len(self.calls)

    def take_number(self):
        number = self.calls[self.place]
        self.place += 1
        return number

    # The slice is a copy: what a table keeps is never what was handed in.
    def take_row(self):
        count = self.take_number()
        begin = self.place
        self.place += count
        return self.calls[begin:self.place]


def read_answer(keeper, text):
    if len(text) > MOST_BYTES:
        return [OUT_OF_BOUNDS]
    try:
        keeper.table = table_of(text)
    except Fault as fault:
        return [0, fault.kind, fault.place]
    return [0, 0, 0]


def make_answer(keeper, places, heights, half_breadths):
    fault = lists_fault(places, heights, half_breadths)
    if fault == [0, 0]:
        keeper.table = Table(places, heights, half_breadths)
    return [0] + fault


def text_answer(keeper):
    if keeper.table is None:
        return [NO_TABLE]
    return [0] + text_of(keeper.table)


def numbers_answer(keeper):
    table = keeper.table
    if table is None:
        return [NO_TABLE]
    counts = [len(table.places), len(table.heights)]
    return [0] + counts + table.places + table.heights + table.half_breadths


def at_answer(keeper, level, station):
    table = keeper.table
    if table is None:
        return [NO_TABLE]
    if not table.has_level_and_station(level, station):
        return [NOT_THERE]
    half_breadth = table.half_breadths[table.number_of(level, station)]
    return [0, table.places[station], table.heights[level], half_breadth]


def set_answer(keeper, level, station, half_breadth):
    table = keeper.table
    if table is None:
        return [NO_TABLE]
    if not is_measure(half_breadth, 0):
        return [OUT_OF_BOUNDS]
    if not table.has_level_and_station(level, station):
        return [NOT_THERE]
    table.half_breadths[table.number_of(level, station)] = half_breadth
    return [0]


def write_answer(measure):
    if not is_measure(measure, -LARGEST):
        return [OUT_OF_BOUNDS]
    return [0] + writing_of(measure)


def value_answer(text):
    try:
        measure = measure_of(text)
    except Fault:
        return [NO_WRITING]
    return [0, measure]


def next_answer(keeper, handed):
    call = handed.take_number()
    if call == READ:
        return read_answer(keeper, handed.take_row())
    if call == MAKE:
        places = handed.take_row()
        heights = handed.take_row()
        half_breadths = handed.take_row()
        return make_answer(keeper, places, heights, half_breadths)
    if call == TEXT:
        return text_answer(keeper)
    if call == NUMBERS:
        return numbers_answer(keeper)
    if call == AT:
        level = handed.take_number()
        station = handed.take_number()
        return at_answer(keeper, level, station)
    if call == SET:
        level = handed.take_number()
        station = handed.take_number()
        half_breadth = handed.take_number()
        return set_answer(keeper, level, station, half_breadth)
    if call == WRITE:
        return write_answer(handed.take_number())
    if call == VALUE:
        return value_answer(handed.take_row())
    raise UnknownCall(str(call))


def answers(calls):
    keeper = Keeper()
    handed = Handed(calls)
    given = []
    while handed.has_more():
        answer = next_answer(keeper, handed)
        given.append(len(answer))
        given.extend(answer)
    return given
