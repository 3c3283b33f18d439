"""The table that printed columns tell, if they are one's: what is found is printed again to know that."""

from vellumpages.letters import MOST_LETTERS
from vellumpages.reader import NO_BYTE, NoText
from vellumpages.table import read_head


# The words of a cell's line, whatever blanks stand around them.
def read_words_shown(reader):
    words = []
    while not reader.sees("|") and not reader.sees("\n"):
        if reader.sees(" "):
            reader.take(" ")
        else:
            words.append(reader.take_thing(MOST_LETTERS, ()))
    return words


def read_line_shown(reader, table):
    rows = table.rows
    if reader.sees(">"):
        reader.take(">")
        rows.append([[] for k in range(table.cell_count)])
    else:
        reader.take(" ")
    if len(rows) == 0:
        raise NoText("a first line that begins no row")
    row = rows[-1]
    for k in range(table.cell_count):
        if k > 0:
            reader.take("|")
        row[k].extend(read_words_shown(reader))
    reader.take("\n")


def read_page_number(reader, number):
    reader.take("=")
    reader.take_number(number, number)
    reader.take("\n")


def read_columns(reader):
    table = read_head(reader)
    number = 0
    while reader.peek() != NO_BYTE:
        if reader.sees("="):
            number += 1
            read_page_number(reader, number)
        else:
            read_line_shown(reader, table)
    return table
