"""The calls: each is handed bytes and gives back one list of whole numbers."""

from vellumpages.answers import numbers_of_cost, numbers_of_line, numbers_of_page, printed_bytes
from vellumpages.concordance import printed_listing, read_listing
from vellumpages.reader import NoText, Reader
from vellumpages.table import read_table, table_text
from vellumpages.tabling import printed_table
from vellumpages.unsetting import read_printed
from vellumpages.untabling import read_columns
from vellumpages.work import read_work, text_of

MOST_TEXT_BYTES = 1048576
MOST_PRINTED_BYTES = 16777216


# What is answered of what t tells, as read finds it, or how t is refused.
def answered(t, read, answer):
    if len(t) > MOST_TEXT_BYTES:
        return [-2]
    try:
        found = read(Reader(t))
    except NoText:
        return [-6]
    return answer(found)


# The text that t gives back: text_told finds it in t, and printed_again must make t of it.
def given_back(t, text_told, printed_again):
    if len(t) > MOST_PRINTED_BYTES:
        return [-2]
    try:
        text = text_told(Reader(t))
        again = printed_again(Reader(text))
    except NoText:
        return [-6]
    if len(text) > MOST_TEXT_BYTES or again != t:
        return [-6]
    return [len(text)] + text


def numbers_or_refusal(numbers):
    if numbers is None:
        return [-4]
    return numbers


def counted_bytes(found):
    if len(found) > MOST_PRINTED_BYTES:
        return [-2]
    return [len(found)] + found


def judge(t):
    if len(t) > MOST_TEXT_BYTES:
        return [-2]
    reader = Reader(t)
    try:
        read_work(reader)
    except NoText:
        return [-6, reader.at]
    return [0]


def pages(t):
    return answered(t, read_work, lambda work: counted_bytes(printed_bytes(work)))


def line(k, t):
    return answered(t, read_work, lambda work: numbers_or_refusal(numbers_of_line(work, k)))


def page(p, t):
    return answered(t, read_work, lambda work: numbers_or_refusal(numbers_of_page(work, p)))


def cost(t):
    return answered(t, read_work, numbers_of_cost)


def unset(t):
    return given_back(
        t,
        lambda reader: text_of(read_printed(reader)),
        lambda reader: printed_bytes(read_work(reader)),
    )


def columns(t):
    return answered(t, read_table, lambda table: counted_bytes(printed_table(table)))


def uncolumns(t):
    return given_back(
        t,
        lambda reader: table_text(read_columns(reader)),
        lambda reader: printed_table(read_table(reader)),
    )


def concord(t):
    return answered(t, read_listing, lambda listing: counted_bytes(printed_listing(listing)))
