"""A table of columns, how it is read from its text, and its text."""

from vellumpages.letters import BLANK, MOST_LETTERS, STROKE, bytes_of, characters_of, joined

# Width, height, how many cells a row has.
TABLE_BOUNDS = ((8, 120), (6, 240), (2, 4))
MOST_TABLE_ROWS = 8192
MOST_TABLE_WORDS = 65536


class Table:
    def __init__(self, settings):
        self.width = settings[0]
        self.height = settings[1]
        self.cell_count = settings[2]
        # The bytes of the settings, which are printed as they stand.
        self.head = []
        # For each row its cells, for each cell its words.
        self.rows = []


def read_head(reader):
    table = Table(reader.take_head(TABLE_BOUNDS))
    table.head = reader.t[:reader.at]
    return table


# At most so many words as are left; a cell may have none.
def read_cell(reader, left):
    if left == 0 or reader.sees("|") or reader.sees("\n"):
        return []
    return reader.take_things(left, MOST_LETTERS, ())


def read_row(reader, cell_count, left):
    row = []
    reader.take("=")
    for k in range(cell_count):
        if k > 0:
            reader.take("|")
        cell = read_cell(reader, left)
        left -= len(cell)
        row.append(cell)
    reader.take("\n")
    return row


def read_table(reader):
    table = read_head(reader)
    left = MOST_TABLE_WORDS
    while reader.sees("=") and len(table.rows) < MOST_TABLE_ROWS:
        row = read_row(reader, table.cell_count, left)
        left -= sum([len(cell) for cell in row])
        table.rows.append(row)
    reader.take_end()
    return table


def table_text(table):
    text = []
    for row in table.rows:
        text.extend(characters_of("="))
        text.extend(joined([joined(cell, BLANK) for cell in row], STROKE))
        text.extend(characters_of("\n"))
    return table.head + bytes_of(text)
