"""Tables of columns for the tests: the document's words taken literally, and tables made by lot."""

import re

from tests.oracle import NUMBER, best_breaking, is_thing, random_thing

HEAD = re.compile(rf"\^({NUMBER}) ({NUMBER}) ({NUMBER})")
# Every character takes one cell here, whatever bytes it has.
LETTERS = "aab1-\u00e9\u4e2d\U0001f600"


class Table:
    def __init__(self, width, height, count, rows=()):
        self.width, self.height, self.count = width, height, count
        self.rows = list(rows)

    @property
    def head(self):
        return f"^{self.width} {self.height} {self.count}\n"

    def holds(self):
        words = [word for row in self.rows for cell in row for word in cell]
        return (8 <= self.width <= 120 and 6 <= self.height <= 240 and 2 <= self.count <= 4
                and len(self.rows) <= 8192 and len(words) <= 65536
                and all(len(row) == self.count for row in self.rows) and all(is_thing(word, 64) for word in words))

    def text(self):
        rows = ["=" + "|".join(" ".join(cell) for cell in row) + "\n" for row in self.rows]
        return (self.head + "".join(rows)).encode()


def parse(data):
    """The table whose text these bytes are, or None."""
    try:
        lines = bytes(data).decode("utf-8").split("\n")
    except UnicodeDecodeError:
        return None
    head = HEAD.fullmatch(lines[0])
    if head is None or lines.pop() != "" or not all(line.startswith("=") for line in lines[1:]):
        return None
    table = Table(*[int(number) for number in head.groups()])
    for line in lines[1:]:
        table.rows.append([cell.split(" ") if cell else [] for cell in line[1:].split("|")])
    return table if table.holds() else None


def quick_breaking(takes, rooms):
    """What best_breaking finds by trying everything, for cells of many words (both rooms are the width)."""
    best = [(0, [], [])]
    for start in range(len(takes) - 1, -1, -1):
        found = []
        taken = -1
        for end in range(start + 1, len(takes) + 1):
            taken += 1 + takes[end - 1]
            if taken > rooms[1] and end > start + 1:
                break
            cost = 0 if end == len(takes) or taken > rooms[1] else (rooms[1] - taken) ** 2
            rest = best[len(takes) - end]
            found.append((cost + rest[0], [start - end] + rest[1], [(start, end)] + rest[2]))
        best.append(min(found))
    return best[-1][2]


def row_lines(table, row, breaking):
    cells = []
    for cell in row:
        spans = breaking([len(word) for word in cell], (table.width, table.width))
        cells.append([" ".join(cell[start:end]) for start, end in spans])
    lines = []
    for at in range(max(1, *[len(cell) for cell in cells])):
        shown = [cell[at] if at < len(cell) else "" for cell in cells]
        lines.append((" " if at else ">") + "|".join([one.ljust(table.width) for one in shown[:-1]] + shown[-1:]))
    return lines


def pages_of(height, rows):
    pages = []
    for lines in rows:
        if len(lines) > height:
            if not pages or pages[-1]:
                pages.append([])
        elif not pages or len(pages[-1]) + len(lines) > height:
            pages.append([])
        for line in lines:
            if len(pages[-1]) == height:
                pages.append([])
            pages[-1].append(line)
    return pages


def lot_pages(source):
    """Pages that begin anywhere."""
    def pages(height, rows):
        found = [[]]
        for line in (line for lines in rows for line in lines):
            if source.random() < 0.3 or len(found[-1]) == height:
                found.append([])
            found[-1].append(line)
        return [page for page in found if page]
    return pages


def printed(table, breaking=best_breaking, paging=pages_of):
    out = table.head
    rows = [row_lines(table, row, breaking) for row in table.rows]
    for at, page in enumerate(paging(table.height, rows)):
        out += f"={at + 1}\n" + "".join(line + "\n" for line in page)
    return out.encode()


def unprinted(data, breaking=best_breaking):
    """The text of the table that prints to these bytes, or None."""
    try:
        lines = bytes(data).decode("utf-8").split("\n")
    except UnicodeDecodeError:
        return None
    head = HEAD.fullmatch(lines[0])
    if head is None:
        return None
    table = Table(*[int(number) for number in head.groups()])
    for line in lines[1:]:
        if line.startswith(">"):
            table.rows.append([[] for cell in range(table.count)])
        if table.rows and line[:1] in (">", " "):
            for cell, shown in zip(table.rows[-1], line[1:].split("|")):
                cell.extend(shown.split())
    return table.text() if table.holds() and printed(table, breaking) == bytes(data) else None


def random_cell(source, width):
    kind = source.randrange(8)
    if kind < 2:
        return []
    if kind == 2:
        # Words that stand alone in their lines, so that there are many lines but one breaking.
        return [source.choice("ab") * source.randint(width // 2 + 1, 64) for word in range(source.randint(1, 20))]
    if kind == 3:
        return [random_thing(source, min(64, 2 * width), LETTERS) for word in range(source.randint(1, 6))]
    most = source.choice((1, 3, 6))
    return [random_thing(source, most, LETTERS) for word in range(source.randint(1, 9))]


def random_table(source):
    table = Table(source.choice((8, 8, 9, 10, 12, 20, 63, 120)), source.choice((6, 6, 7, 8, 11, 240)),
                  source.randint(2, 4))
    for row in range(source.choice((0, 1, 2, 4, 8))):
        table.rows.append([random_cell(source, table.width) for cell in range(table.count)])
    return table


def random_long_table(source, size):
    """A table whose text is almost as long as told, of cells with many words."""
    table = Table(source.choice((8, 20, 40, 120)), source.choice((6, 20, 240)), source.randint(2, 4))
    while len(table.text()) < size:
        most = source.choice((2, 5, 9, 30))
        row = []
        for cell in range(table.count):
            count = source.choice((0, 1, 5, 40, 90))
            row.append([random_thing(source, most, LETTERS) for word in range(count)])
        table.rows.append(row)
    table.rows.pop()
    return table


def spoiled(source, whole):
    """A byte or two changed, left out or put in."""
    found = bytearray(whole)
    for k in range(source.randint(1, 2)):
        at = source.randrange(len(found) + 1)
        byte = source.choice(b"0129 \n^=|>ab~\x00\x7f\x80\xa0\xbf\xc2\xc3\xe0\xed\xef\xf0\xf4\xff")
        found[at:at + source.randrange(2)] = bytes([byte]) * source.randrange(2)
    return bytes(found)
