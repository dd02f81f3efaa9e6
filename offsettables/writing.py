"""A table's text."""

from offsettables.measures import written


# A blank stands before each measure, the first one too, so it's no join with blanks between.
def row_of(measures):
    return "".join([" " + written(measure) for measure in measures])


def level_line(table, level):
    stations = len(table.places)
    begin = level * stations
    height = written(table.heights[level])
    row = row_of(table.half_breadths[begin:begin + stations])
    return f"level {height}:{row}\n"


def text_of(table):
    places = row_of(table.places)
    lines = [f"stations{places}\n"]
    for level in range(len(table.heights)):
        lines.append(level_line(table, level))
    return [ord(sign) for sign in "".join(lines)]
