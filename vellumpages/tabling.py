"""Columns as they are printed: rows in lines, lines on pages."""

from vellumpages.breaking import ends_of, joined_lines, tails_of
from vellumpages.letters import BLANK, STROKE, bytes_of, characters_of, joined


def lines_of_cell(cell, width):
    if len(cell) == 0:
        return []
    takes = [len(word) for word in cell]
    return joined_lines(cell, ends_of(takes, tails_of(takes, width), width))


# Nothing where the cell has ended before its row does.
def line_at(lines, at):
    if at < len(lines):
        return lines[at]
    return []


# What is longer than the width sticks out.
def filled_up(line, width):
    return line + [BLANK] * (width - len(line))


# One line of a row, handed the lines of each of its cells.
def printed_line_of_row(cells, at, width):
    shown = [filled_up(line_at(lines, at), width) for lines in cells[:-1]]
    shown.append(line_at(cells[-1], at))
    return characters_of(">" if at == 0 else " ") + joined(shown, STROKE) + characters_of("\n")


def printed_row(row, width):
    cells = [lines_of_cell(cell, width) for cell in row]
    # A row of empty cells has a line, too.
    count = max([1] + [len(lines) for lines in cells])
    return [printed_line_of_row(cells, at, width) for at in range(count)]


def printed_table(table):
    printed = list(table.head)
    page = 0
    # Lines left on the page; there is no page before its first line is put, so none is ever empty.
    left = 0
    for row in table.rows:
        lines = printed_row(row, table.width)
        if len(lines) > left:
            left = 0
        for line in lines:
            if left == 0:
                page += 1
                printed.extend(characters_of(f"={page}\n"))
                left = table.height
            printed.extend(line)
            left -= 1
    return bytes_of(printed)
