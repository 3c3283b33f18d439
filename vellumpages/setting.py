"""The calls: each is handed bytes and gives back one list of whole numbers."""

from vellumpages.letters import bytes_of
from vellumpages.lines import lines_of
from vellumpages.paging import pages_of
from vellumpages.printing import printed_pages
from vellumpages.reader import NoText, Reader
from vellumpages.work import read_work

MOST_TEXT_BYTES = 1048576
MOST_PRINTED_BYTES = 16777216


def judge(t):
    if len(t) > MOST_TEXT_BYTES:
        return [-2]
    reader = Reader(t)
    try:
        read_work(reader)
    except NoText:
        return [-6, reader.at]
    return [0]


def pages(t):
    if len(t) > MOST_TEXT_BYTES:
        return [-2]
    try:
        work = read_work(Reader(t))
    except NoText:
        return [-6]
    lines = lines_of(work)
    printed = bytes_of(printed_pages(work, lines, pages_of(work, lines)))
    if len(printed) > MOST_PRINTED_BYTES:
        return [-2]
    return [len(printed)] + printed
