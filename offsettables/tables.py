"""The calls on one object, which has a table or none, and their answers."""

from offsettables.layout import Table
from offsettables.making import lists_fault
from offsettables.reading import Fault, table_of
from offsettables.writing import text_of

READ = 1
MAKE = 2
TEXT = 3
NUMBERS = 4

OUT_OF_BOUNDS = -1
NO_TABLE = -5

MOST_BYTES = 20000


class UnknownCall(ValueError):
    pass


class Keeper:
    def __init__(self):
        self.table = None


class Handed:
    def __init__(self, calls):
        self.calls = calls
        self.place = 0

    def has_more(self):
        return self.place < len(self.calls)

    def take_number(self):
        number = self.calls[self.place]
        self.place += 1
        return number

    # The slice is a copy: what a table keeps is never what was handed in.
    def take_row(self):
        count = self.take_number()
        begin = self.place
        self.place += count
        return self.calls[begin:self.place]


def read_answer(keeper, text):
    if len(text) > MOST_BYTES:
        return [OUT_OF_BOUNDS]
    try:
        keeper.table = table_of(text)
    except Fault as fault:
        return [0, fault.kind, fault.place]
    return [0, 0, 0]


def make_answer(keeper, places, heights, half_breadths):
    fault = lists_fault(places, heights, half_breadths)
    if fault == [0, 0]:
        keeper.table = Table(places, heights, half_breadths)
    return [0] + fault


def text_answer(keeper):
    if keeper.table is None:
        return [NO_TABLE]
    return [0] + text_of(keeper.table)


def numbers_answer(keeper):
    table = keeper.table
    if table is None:
        return [NO_TABLE]
    counts = [len(table.places), len(table.heights)]
    return [0] + counts + table.places + table.heights + table.half_breadths


def next_answer(keeper, handed):
    call = handed.take_number()
    if call == READ:
        return read_answer(keeper, handed.take_row())
    if call == MAKE:
        places = handed.take_row()
        heights = handed.take_row()
        half_breadths = handed.take_row()
        return make_answer(keeper, places, heights, half_breadths)
    if call == TEXT:
        return text_answer(keeper)
    if call == NUMBERS:
        return numbers_answer(keeper)
    raise UnknownCall(str(call))


def answers(calls):
    keeper = Keeper()
    handed = Handed(calls)
    given = []
    while handed.has_more():
        answer = next_answer(keeper, handed)
        given.append(len(answer))
        given.extend(answer)
    return given
