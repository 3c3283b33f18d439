"""The calls: each is handed bytes and gives back one list of whole numbers."""

from vellumpages.answers import numbers_of_cost, numbers_of_line, numbers_of_page, printed_bytes
from vellumpages.reader import NoText, Reader
from vellumpages.unsetting import read_printed
from vellumpages.work import read_work, text_of

MOST_TEXT_BYTES = 1048576
MOST_PRINTED_BYTES = 16777216


# What is answered of the work whose text t is, or how t is refused.
def answered_of_work(t, answer):
    if len(t) > MOST_TEXT_BYTES:
        return [-2]
    try:
        work = read_work(Reader(t))
    except NoText:
        return [-6]
    return answer(work)


def numbers_or_refusal(numbers):
    if numbers is None:
        return [-4]
    return numbers


def counted_bytes(found):
    if len(found) > MOST_PRINTED_BYTES:
        return [-2]
    return [len(found)] + found


def judge(t):
    if len(t) > MOST_TEXT_BYTES:
        return [-2]
    reader = Reader(t)
    try:
        read_work(reader)
    except NoText:
        return [-6, reader.at]
    return [0]


def pages(t):
    return answered_of_work(t, lambda work: counted_bytes(printed_bytes(work)))


def line(k, t):
    return answered_of_work(t, lambda work: numbers_or_refusal(numbers_of_line(work, k)))


def page(p, t):
    return answered_of_work(t, lambda work: numbers_or_refusal(numbers_of_page(work, p)))


def cost(t):
    return answered_of_work(t, numbers_of_cost)


def unset(t):
    if len(t) > MOST_PRINTED_BYTES:
        return [-2]
    try:
        text = text_of(read_printed(Reader(t)))
        work = read_work(Reader(text))
    except NoText:
        return [-6]
    if len(text) > MOST_TEXT_BYTES or printed_bytes(work) != t:
        return [-6]
    return [len(text)] + text
