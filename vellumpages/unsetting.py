"""The work that printed pages tell, if they are one's: what is found is set and printed again to know that."""

from vellumpages.letters import BLANK, MARKS, MOST_LETTERS
from vellumpages.reader import NO_BYTE, NoText
from vellumpages.work import CARET, MOST_WORDS, SETTING_BOUNDS, Work, read_rows

MARGIN_CELLS = 4


class Found:
    def __init__(self, work):
        self.work = work
        # For each line its first word's number, and the number behind its last word's.
        self.spans = []
        # The first line of the page that is read, and the line whose note is.
        self.page_first = 0
        self.noted = None


# It gives back, for each stroke, the number of the word behind it.
def read_word(reader, work):
    stroked = []
    while reader.sees("|"):
        reader.take("|")
        stroked.append(len(work.words))
    work.words.append(reader.take_thing(MOST_LETTERS, ()))
    work.signs.append([])
    return stroked


def read_words(reader, work):
    stroked = read_word(reader, work)
    while reader.sees(" "):
        reader.take(" ")
        if reader.sees("{"):
            return stroked
        stroked.extend(read_word(reader, work))
    return stroked


def read_sign(reader):
    characters = []
    while not reader.sees("|") and not reader.sees("}"):
        if reader.sees(" "):
            reader.take(" ")
            characters.append(BLANK)
        else:
            characters.append(reader.take_character(CARET))
    return characters


def read_signs_behind(reader, work, stroked):
    for at, k in enumerate(stroked):
        reader.take("{" if at == 0 else "|")
        work.signs[k].append(read_sign(reader))
    if len(stroked) > 0:
        reader.take("}")


def read_margin(reader):
    for k in range(MARGIN_CELLS):
        if reader.sees(" "):
            reader.take(" ")
        else:
            reader.take_digit(0, 0, 9)
    reader.take(" ")


def read_line(reader, found):
    work = found.work
    first = len(work.words)
    read_margin(reader)
    opens = reader.sees(" ")
    while reader.sees(" "):
        reader.take(" ")
    read_signs_behind(reader, work, read_words(reader, work))
    reader.take("\n")
    end = len(work.words)
    found.spans.append((first, end))
    paragraphs = work.paragraphs
    if opens:
        paragraphs.append((first, end))
    elif len(paragraphs) > 0:
        paragraphs[-1] = (paragraphs[-1][0], end)
    else:
        raise NoText("a first line that begins no paragraph")


def read_letters(reader):
    letters = [reader.take_character(())]
    while not reader.sees("^") and not reader.sees("~") and not reader.sees("]"):
        letters.append(reader.take_character(()))
    return letters


# The number of the word in the line that has these letters, of several the one told.
def word_in_line(work, span, letters, which):
    like = [k for k in range(span[0], span[1]) if work.words[k] == letters]
    if which > len(like):
        raise NoText("no such word in the line")
    return like[which - 1]


# Which of the like words, 1 where the key doesn't say.
def read_which(reader):
    if not reader.sees("^"):
        return 1
    reader.take("^")
    return reader.take_number(1, MOST_WORDS)


# How many words an entry speaks of, 1 where the key doesn't say.
def read_count(reader):
    if not reader.sees("~"):
        return 1
    reader.take("~")
    count = reader.take_number(2, MOST_WORDS)
    reader.take("~")
    read_letters(reader)
    return count


# An entry's f and m.
def read_key(reader, work, span):
    reader.take("[")
    before = reader.sees("+")
    if before:
        reader.take("+")
        if reader.sees("]"):
            reader.take("]")
            # Its note begins by the last line, so all words are read.
            return (len(work.words), 0)
    letters = read_letters(reader)
    f = word_in_line(work, span, letters, read_which(reader))
    m = read_count(reader)
    reader.take("]")
    return (f, 0 if before else m)


# The line whose note begins here.
def read_noted(reader, found):
    reader.take("#")
    at = reader.take_number(1, MOST_WORDS) - 1
    if found.work.anew == 1:
        at += found.page_first
    if at >= len(found.spans):
        raise NoText("a note of no line")
    return at


def read_foot_thing(reader, found):
    if reader.sees("#"):
        found.noted = read_noted(reader, found)
        return
    if found.noted is None:
        raise NoText("no note is begun")
    entries = found.work.entries
    if reader.sees("["):
        key = read_key(reader, found.work, found.spans[found.noted])
        entries.append((key[0], key[1], []))
    elif len(entries) > 0:
        entries[-1][2].append(reader.take_thing(MOST_LETTERS, MARKS))
    else:
        raise NoText("a token of no entry")


def read_foot(reader, found):
    reader.take("~")
    reader.take("\n")
    while reader.sees(" "):
        while reader.sees(" "):
            reader.take(" ")
            read_foot_thing(reader, found)
        reader.take("\n")


def read_page(reader, found, number):
    reader.take("=")
    reader.take_number(number, number)
    reader.take("\n")
    found.page_first = len(found.spans)
    while not reader.sees("=") and not reader.sees("~") and reader.peek() != NO_BYTE:
        read_line(reader, found)
    if reader.sees("~"):
        read_foot(reader, found)


def read_printed(reader):
    work = Work(reader.take_head(SETTING_BOUNDS))
    read_rows(reader, work)
    work.head = reader.t[:reader.at]
    found = Found(work)
    number = 0
    while reader.peek() != NO_BYTE:
        number += 1
        read_page(reader, found, number)
    return work
