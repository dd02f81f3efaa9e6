"""The bytes of a measure's writing and of a table's text."""

from offsettables.measures import written


def bytes_of(signs):
    return [ord(sign) for sign in signs]


def writing_of(measure):
    return bytes_of(written(measure))


# A blank stands before each measure, the first one too, so it's no join with blanks between.
def row_of(measures):
    return "".join([" " + written(measure) for measure in measures])


def level_line(table, level):
    begin = table.number_of(level, 0)
    behind = table.number_of(level + 1, 0)
    height = written(table.heights[level])
    row = row_of(table.half_breadths[begin:behind])
    return f"level {height}:{row}\n"


def text_of(table):
    places = row_of(table.places)
    lines = [f"stations{places}\n"]
    for level in range(len(table.heights)):
        lines.append(level_line(table, level))
    return bytes_of("".join(lines))
