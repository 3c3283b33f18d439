"""The lines of a work, with the notes that belong to them."""

from vellumpages.breaking import ends_of, line_cost, tails_of
from vellumpages.letters import cells_of_thing
from vellumpages.notes import Note, key_of


class Line:
    def __init__(self, first, end, opens, closes, taken):
        # Its first word's number, and the number behind its last word's.
        self.first = first
        self.end = end
        # Whether it is its paragraph's first, its paragraph's last.
        self.opens = opens
        self.closes = closes
        # The cells that it takes.
        self.taken = taken
        self.note = None


def word_takes(work, k):
    return cells_of_thing(work.rows, work.words[k]) + len(work.signs[k])


def room_of(work, opens):
    if opens:
        return work.width - work.indent
    return work.width


def cost_of_line(work, line):
    return line_cost(line.taken, room_of(work, line.opens), line.closes)


def lines_of_paragraph(work, first, end):
    takes = [word_takes(work, k) for k in range(first, end)]
    tails = tails_of(takes, room_of(work, False))
    lines = []
    start = 0
    for line_end in ends_of(takes, tails, room_of(work, True)):
        taken = sum(takes[start:line_end]) + line_end - start - 1
        lines.append(Line(first + start, first + line_end, start == 0, first + line_end == end, taken))
        start = line_end
    return lines


# For each line the keys and tokens of its entries.
def things_of_notes(work, lines):
    things = [[] for line in lines]
    at = 0
    for entry in work.entries:
        # The last line takes what stands behind all words, too.
        while at < len(lines) - 1 and entry[0] >= lines[at].end:
            at += 1
        things[at].append(key_of(work.words, lines[at].first, lines[at].end, entry[0], entry[1]))
        things[at].extend(entry[2])
    return things


def lines_of(work):
    lines = []
    for paragraph in work.paragraphs:
        lines.extend(lines_of_paragraph(work, paragraph[0], paragraph[1]))
    things = things_of_notes(work, lines)
    for k in range(len(lines)):
        if len(things[k]) > 0:
            line = lines[k]
            line.note = Note(work, things[k])
    return lines
