"""A work, how it is read from its text, and its text."""

from vellumpages.letters import BLANK, FIRST_LETTER, LAST_CHARACTER, MARKS, MOST_LETTERS
from vellumpages.letters import bytes_of, characters_of, joined
from vellumpages.reader import NoText

# Width, height, indent, every, anew, loose.
SETTING_BOUNDS = ((20, 240), (6, 240), (1, 16), (1, 100), (0, 1), (0, 10000))
MOST_ROWS = 64
MOST_PARAGRAPHS = 4096
MOST_WORDS = 8192
MOST_SIGNS = 4096
MOST_ENTRIES = 4096
MOST_TOKENS = 65536
MOST_TOKENS_OF_ENTRY = 1024
MOST_SIGN_THINGS = 4
MOST_SIGN_CHARACTERS = 16
CARET = (94,)


class Work:
    def __init__(self, settings):
        self.width = settings[0]
        self.height = settings[1]
        self.indent = settings[2]
        self.every = settings[3]
        self.anew = settings[4]
        self.loose = settings[5]
        # (lo, hi, cells)
        self.rows = []
        # The bytes of settings and widths, which are printed as they stand.
        self.head = []
        # (its first word's number, the number behind its last word's)
        self.paragraphs = []
        self.words = []
        # For each word the texts of its signs.
        self.signs = []
        # (f, m, tokens)
        self.entries = []


def read_rows(reader, work):
    low = FIRST_LETTER
    # Behind a row that ends at the last character there is no place for one more.
    while reader.sees("(") and len(work.rows) < MOST_ROWS and low <= LAST_CHARACTER:
        reader.take("(")
        lo = reader.take_number(low, LAST_CHARACTER)
        reader.take(" ")
        hi = reader.take_number(lo, LAST_CHARACTER)
        reader.take(" ")
        width = reader.take_number(0, 2)
        reader.take("\n")
        work.rows.append((lo, hi, width))
        low = hi + 1


def read_paragraphs(reader, work):
    while reader.sees(">") and len(work.paragraphs) < MOST_PARAGRAPHS and len(work.words) < MOST_WORDS:
        reader.take(">")
        first = len(work.words)
        work.words.extend(reader.take_things(MOST_WORDS - first, MOST_LETTERS, ()))
        work.paragraphs.append((first, len(work.words)))
        reader.take("\n")


def read_signs(reader, work):
    work.signs = [[] for word in work.words]
    count = 0
    low = 0
    while reader.sees("{") and count < MOST_SIGNS and len(work.words) > 0:
        reader.take("{")
        low = reader.take_number(low, len(work.words) - 1)
        reader.take(" ")
        things = reader.take_things(MOST_SIGN_THINGS, MOST_SIGN_CHARACTERS, CARET)
        reader.take("\n")
        work.signs[low].append(joined(things, BLANK))
        count += 1


def read_tokens(reader, most):
    tokens = []
    while reader.sees(" ") and len(tokens) < most:
        reader.take(" ")
        # So begin the keys and the numbers of notes, from which tokens must differ.
        if reader.sees("[") or reader.sees("#"):
            raise NoText("no token")
        tokens.append(reader.take_thing(MOST_LETTERS, MARKS))
    return tokens


def read_entries(reader, work):
    left = MOST_TOKENS
    first = 0
    while reader.sees("[") and len(work.entries) < MOST_ENTRIES and len(work.words) > 0:
        reader.take("[")
        first = reader.take_number(first, len(work.words))
        reader.take(" ")
        count = reader.take_number(0, len(work.words) - first)
        tokens = read_tokens(reader, min(left, MOST_TOKENS_OF_ENTRY))
        reader.take("\n")
        work.entries.append((first, count, tokens))
        left -= len(tokens)


def read_work(reader):
    work = Work(reader.take_head(SETTING_BOUNDS))
    read_rows(reader, work)
    work.head = reader.t[:reader.at]
    read_paragraphs(reader, work)
    read_signs(reader, work)
    read_entries(reader, work)
    reader.take_end()
    return work


def paragraphs_text(work):
    text = []
    for paragraph in work.paragraphs:
        text.extend(characters_of(">"))
        text.extend(joined(work.words[paragraph[0]:paragraph[1]], BLANK))
        text.extend(characters_of("\n"))
    return text


def signs_text(work):
    text = []
    for k, signs in enumerate(work.signs):
        for sign in signs:
            text.extend(characters_of("{" + str(k) + " "))
            text.extend(sign)
            text.extend(characters_of("\n"))
    return text


def entries_text(work):
    text = []
    for entry in work.entries:
        text.extend(characters_of("[" + str(entry[0]) + " " + str(entry[1])))
        for token in entry[2]:
            text.append(BLANK)
            text.extend(token)
        text.extend(characters_of("\n"))
    return text


def text_of(work):
    return work.head + bytes_of(paragraphs_text(work) + signs_text(work) + entries_text(work))
