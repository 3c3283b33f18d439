"""What the calls answer of a work."""

from vellumpages.letters import bytes_of
from vellumpages.lines import cost_of_line, lines_of
from vellumpages.paging import number_of_line, own_foot_lines, pages_of
from vellumpages.printing import printed_pages


def printed_bytes(work):
    lines = lines_of(work)
    return bytes_of(printed_pages(work, lines, pages_of(work, lines)))


# The place in the list of the page where the line stands.
def place_of_page(pages, k):
    place = 0
    while k >= pages[place].end:
        place += 1
    return place


# None if there is no such line.
def numbers_of_line(work, k):
    lines = lines_of(work)
    if k >= len(lines):
        return None
    line = lines[k]
    pages = pages_of(work, lines)
    place = place_of_page(pages, k)
    page_first = pages[place].first
    number = number_of_line(work, k, page_first)
    foot_count = own_foot_lines(work, lines, k, page_first)
    return [place + 1, number, line.first, line.end - line.first, line.taken, foot_count]


# None if there is no such page; they are counted from 1.
def numbers_of_page(work, p):
    pages = pages_of(work, lines_of(work))
    if not 1 <= p <= len(pages):
        return None
    page = pages[p - 1]
    return [page.first, page.end - page.first, page.came, page.own, page.rest, page.kind, page.cost]


def numbers_of_cost(work):
    lines = lines_of(work)
    pages = pages_of(work, lines)
    line_costs = [cost_of_line(work, line) for line in lines]
    return [len(pages), sum(line_costs), sum([page.cost for page in pages])]
