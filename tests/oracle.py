"""What the tests lean on: the document's words taken literally, by trying everything, and works made by lot.

It is slow, and written apart from the program.
"""

import itertools
import re

MARKS = '|/()[]<>{}=+~^#"'
HEADS = re.compile(r"\^\(*>*\{*\[*")
NUMBER = r"(?:0|[1-9][0-9]*)"
# A token that fills a foot line of the least width.
WIDE = "t" * 20


def text(*lines):
    return "".join(line + "\n" for line in lines)


def entry(f, foot_lines):
    """An entry of word f that makes so many foot lines in the least width, if it's its line's only one."""
    return " ".join([f"[{f} 1"] + [WIDE] * (foot_lines - 1))


def is_letter(char):
    number = ord(char)
    if number < 33 or char in MARKS or number in range(127, 160):
        return False
    return number & 0xFFFF not in (0xFFFE, 0xFFFF)


def is_thing(text, most, marks=""):
    return 1 <= len(text) <= most and all(is_letter(char) or char in marks for char in text)


def is_token(text):
    return is_thing(text, 64, MARKS) and text[0] not in "[#"


def fields(line, most):
    """The things of a line behind its first character; None if a number among the first few is none."""
    found = line[1:].split(" ")
    if not all(re.fullmatch(NUMBER, number) for number in found[:most]) or len(found) < most:
        return None
    return [int(number) for number in found[:most]] + found[most:]


class Work:
    def __init__(self):
        self.settings = None
        self.widths, self.paragraphs, self.signs, self.entries = [], [], [], []

    @property
    def words(self):
        return [word for paragraph in self.paragraphs for word in paragraph]

    def cells(self, text):
        total = 0
        for char in text:
            rows = [] if char in MARKS or char == " " else [w for lo, hi, w in self.widths if lo <= ord(char) <= hi]
            total += rows[0] if rows else 1
        return total

    def text(self):
        out = ["^" + " ".join(map(str, self.settings))]
        out += ["(" + " ".join(map(str, row)) for row in self.widths]
        out += [">" + " ".join(paragraph) for paragraph in self.paragraphs]
        out += ["{%d %s" % sign for sign in self.signs]
        out += [" ".join(["[%d" % f, "%d" % m] + tokens) for f, m, tokens in self.entries]
        return "".join(line + "\n" for line in out).encode()


def settings_hold(settings):
    bounds = [(20, 240), (6, 240), (1, 16), (1, 100), (0, 1), (0, 10000)]
    return len(settings) == 6 and all(lo <= number <= hi for number, (lo, hi) in zip(settings, bounds))


def parse(data):
    """The work whose text these bytes are, or None."""
    try:
        text = bytes(data).decode("utf-8")
    except UnicodeDecodeError:
        return None
    lines = text.split("\n")
    if lines.pop() != "" or "" in lines or not HEADS.fullmatch("".join(line[0] for line in lines)):
        return None
    work = Work()
    for line in lines:
        if not take_line(work, line):
            return None
    counts = [(work.widths, 64), (work.paragraphs, 4096), (work.words, 8192), (work.signs, 4096),
              (work.entries, 4096), ([token for entry in work.entries for token in entry[2]], 65536)]
    return work if all(len(things) <= most for things, most in counts) else None


def take_line(work, line):
    if line[0] == "^":
        work.settings = fields(line, 6)
        return work.settings is not None and settings_hold(work.settings)
    if line[0] == "(":
        row = fields(line, 3)
        if row is None or len(row) != 3:
            return False
        behind = work.widths[-1][1] if work.widths else 32
        work.widths.append(tuple(row))
        return behind < row[0] <= row[1] <= 0x10FFFF and row[2] <= 2
    if line[0] == ">":
        work.paragraphs.append(line[1:].split(" "))
        return all(is_thing(word, 64) for word in work.paragraphs[-1])
    if line[0] == "{":
        return take_sign(work, fields(line, 1))
    return take_entry(work, fields(line, 2))


def take_sign(work, found):
    if found is None:
        return False
    before = work.signs[-1][0] if work.signs else 0
    work.signs.append((found[0], " ".join(found[1:])))
    return (before <= found[0] < len(work.words) and 1 <= len(found) - 1 <= 4
            and all(is_thing(thing, 16, "^") for thing in found[1:]))


def take_entry(work, found):
    if found is None:
        return False
    before = work.entries[-1][0] if work.entries else 0
    f, m, tokens = found[0], found[1], found[2:]
    work.entries.append((f, m, tokens))
    n = len(work.words)
    return n > 0 and before <= f and f + m <= n and len(tokens) <= 1024 and all(map(is_token, tokens))


def is_beginning(prefix):
    """Whether some work's text begins with these bytes: all ways to go on that could matter are tried."""
    return any(parse(prefix + more) is not None for more in ways_on(prefix))


def ways_on(prefix):
    for tail in character_ends(prefix):
        for digits in number_ends(prefix):
            for rest in line_ends(prefix):
                yield tail + digits + rest


def character_ends(prefix):
    yield b""
    if prefix and prefix[-1] >= 0x80:
        for size in (1, 2, 3):
            for tail in itertools.product((0x80, 0x8F, 0x90, 0x9F, 0xA0, 0xBF), repeat=size):
                yield bytes(tail)


def number_ends(prefix):
    yield b""
    last = re.search(rb"[0-9]+\Z", prefix)
    if not last:
        return
    digits = last.group().decode()
    near = {33, 20, 6, 240, 0x10FFFF}
    for number in re.findall(rb"[0-9]+", prefix):
        near |= {int(number), int(number) + 1}
    near |= {int(digits + filler * size) for filler in "09" for size in range(7)}
    near |= set(range(int(digits) * 10, int(digits) * 10 + 10))
    for number in sorted(near):
        if str(number).startswith(digits):
            yield str(number)[len(digits):].encode()


def line_ends(prefix):
    line = prefix[prefix.rfind(b"\n") + 1:]
    defaults = {
        b"": [""],
        b"^": ["20", "6", "1", "1", "0", "0"],
        b"(": ["1114111", "1114111", "0"],
        b">": ["x"],
        b"{": ["0", "x"],
        b"[": ["0", "0", "x"],
    }.get(line[:1], [])
    yield b"\n"
    if line == b"":
        yield b""
        yield b"^20 6 1 1 0 0\n"
    for k in range(len(defaults)):
        for blanks in (0, 1):
            yield (" " * blanks + " ".join(defaults[k:]) + "\n").encode()
    if line[:1] in (b"{", b"["):
        numbers = re.findall(rb"\n[{\[]([0-9]+) ", prefix)
        low = numbers[-1].decode() if numbers else "0"
        yield (low + " 0\n").encode()


def all_breakings(takes, rooms, start=0):
    """Every breaking, as lists of (start, end, cost); rooms: the first line's and the others'."""
    if start == len(takes):
        yield []
        return
    room = rooms[0] if start == 0 else rooms[1]
    for end in range(start + 1, len(takes) + 1):
        taken = sum(takes[start:end]) + end - start - 1
        if taken <= room or end - start == 1:
            cost = 0 if end == len(takes) or taken > room else (room - taken) ** 2
            for rest in all_breakings(takes, rooms, end):
                yield [(start, end, cost)] + rest


def least_breaking(takes, rooms):
    ranked = [(sum(line[2] for line in lines), [line[0] - line[1] for line in lines], lines)
              for lines in all_breakings(takes, rooms)]
    return min(ranked)[2]


def best_breaking(takes, rooms):
    return [line[:2] for line in least_breaking(takes, rooms)]


def takes_of_paragraphs(work):
    """What each word of each paragraph takes."""
    found, first = [], 0
    for paragraph in work.paragraphs:
        found.append([work.cells(word) + sum(k == first + at for k, sign in work.signs)
                      for at, word in enumerate(paragraph)])
        first += len(paragraph)
    return found


def set_lines(work, breaking=best_breaking):
    """(first word, word behind the last, whether the paragraph's first, whether its last)."""
    width, indent = work.settings[0], work.settings[2]
    lines, first = [], 0
    for takes in takes_of_paragraphs(work):
        for start, end in breaking(takes, (width - indent, width)):
            lines.append((first + start, first + end, start == 0, end == len(takes)))
        first += len(takes)
    return lines


def lot_breaking(source):
    """Some breaking, by lot."""
    return lambda takes, rooms: [line[:2] for line in source.choice(list(all_breakings(takes, rooms)))]


def key(work, line, f, m):
    words = work.words
    if f == len(words):
        return "[+]"
    here = words[line[0]:line[1]]
    which = "^%d" % (words[line[0]:f].count(words[f]) + 1) if here.count(words[f]) > 1 else ""
    span = "~%d~%s" % (m, words[f + m - 1]) if m >= 2 else ""
    return "[" + ("+" if m == 0 else "") + words[f] + which + span + "]"


def foot_lines(work, lines, k, number, breaking=best_breaking):
    entries = [e for e in work.entries
               if lines[k][0] <= e[0] < lines[k][1] or (e[0] == len(work.words) and k == len(lines) - 1)]
    if not entries:
        return []
    things = ["#%d" % number]
    for f, m, tokens in entries:
        things += [key(work, lines[k], f, m)] + tokens
    width = work.settings[0]
    return [" ".join(things[start:end])
            for start, end in breaking([work.cells(thing) for thing in things], (width, width))]


class Pager:
    def __init__(self, work, line_breaking=best_breaking, foot_breaking=best_breaking):
        self.work = work
        self.height, self.anew, self.loose = work.settings[1], work.settings[4], work.settings[5]
        self.lines = set_lines(work, line_breaking)
        self.foot_breaking = foot_breaking
        self.feet = {}

    def number(self, k, i):
        return k - i + 1 if self.anew else k + 1

    def foot(self, k, i):
        number = self.number(k, i)
        if (k, number) not in self.feet:
            self.feet[k, number] = foot_lines(self.work, self.lines, k, number, self.foot_breaking)
        return self.feet[k, number]

    def choices(self, i, waiting):
        """The pages that may be here: (kind, j, what stands at the foot, what goes on, what it costs)."""
        whole = []
        for j in range(i + 1, len(self.lines) + 1):
            foot = waiting + [text for k in range(i, j) for text in self.foot(k, i)]
            wants = j - i + len(foot) + bool(foot)
            if wants <= self.height:
                whole.append(("whole", j, foot, [], self.cost(i, j, wants)))
        if whole:
            return whole
        if i < len(self.lines) and len(waiting) <= self.height - 3:
            foot = waiting + self.foot(i, i)
            return [("cut", i + 1, foot[:self.height - 2], foot[self.height - 2:], 0)]
        return [("alone", i, waiting[:self.height - 1], waiting[self.height - 1:], 0)]

    def cost(self, i, j, wants):
        cost = 0 if j == len(self.lines) else (self.height - wants) ** 2
        opens, closes = self.lines[j - 1][2:]
        cost += self.loose * (opens and not closes)
        opens, closes = self.lines[i][2:]
        return cost + self.loose * (closes and not opens)

    def plans(self, i=0, waiting=()):
        if i == len(self.lines) and not waiting:
            yield 0, [], []
            return
        for kind, j, foot, rest, cost in self.choices(i, list(waiting)):
            for total, counts, pages in self.plans(j, rest):
                page = (kind, i, j, foot, min(len(waiting), len(foot)), len(rest), cost)
                yield cost + total, [i - j] + counts, [page] + pages

    def best(self):
        """For each page: kind, i, j, what stands at its foot, how many of that came over, how many go on, cost."""
        return min(self.plans())[2]


def lines_told(work):
    """What the line call tells of each line."""
    pager = Pager(work)
    told = []
    for at, (kind, i, j, *rest) in enumerate(pager.best()):
        for k in range(i, j):
            first, end = pager.lines[k][:2]
            strokes = sum(first <= number < end for number, sign in work.signs)
            takes = work.cells(" ".join(work.words[first:end])) + strokes
            told.append([at + 1, pager.number(k, i), first, end - first, takes, len(pager.foot(k, i))])
    return told


def pages_told(work):
    """What the page call tells of each page."""
    kinds = {"whole": 0, "cut": 1, "alone": 2}
    return [[i, j - i, came, len(foot) - came, rest, kinds[kind], cost]
            for kind, i, j, foot, came, rest, cost in Pager(work).best()]


def costs_told(work):
    """What the cost call tells."""
    width, indent = work.settings[0], work.settings[2]
    breakings = [least_breaking(takes, (width - indent, width)) for takes in takes_of_paragraphs(work)]
    pages = pages_told(work)
    return [len(pages), sum(line[2] for lines in breakings for line in lines), sum(page[6] for page in pages)]


def printed(work):
    pager = Pager(work)
    return printed_plan(work, pager, pager.best())


def printed_plan(work, pager, pages):
    out = ["^" + " ".join(map(str, work.settings))] + ["(%d %d %d" % row for row in work.widths]
    for at, (kind, i, j, foot, came, rest, cost) in enumerate(pages):
        out.append("=%d" % (at + 1))
        out += [printed_line(work, pager.lines[k], pager.number(k, i)) for k in range(i, j)]
        if foot:
            out += ["~"] + [" " + text for text in foot]
    return "".join(line + "\n" for line in out).encode()


def printed_line(work, line, number):
    words = []
    for k in range(line[0], line[1]):
        words.append("|" * sum(at == k for at, text in work.signs) + work.words[k])
    texts = [text for at, text in work.signs if line[0] <= at < line[1]]
    margin = "%4d" % number if number % work.settings[3] == 0 else "    "
    return (margin + " " + " " * work.settings[2] * line[2] + " ".join(words)
            + (" {" + "|".join(texts) + "}" if texts else ""))


def random_settings(source):
    return [source.choice((20, 20, 21, 24, 30)), source.choice((6, 6, 7, 8, 10)), source.choice((1, 2, 5, 16)),
            source.choice((1, 2, 3, 5)), source.randrange(2), source.choice((0, 0, 1, 4, 30, 10000))]


def random_thing(source, most, alphabet="aabc1\u00e9\u4e2d\U0001f600"):
    return "".join(source.choice(alphabet) for k in range(source.randint(1, most)))


def random_widths(source):
    rows, low = [], 33
    while source.random() < 0.6:
        lo = low + source.choice((0, 1, 5, 15, 40, 64))
        hi = lo + source.choice((0, 0, 1, 9, 30, 20000))
        rows.append((lo, hi, source.randrange(3)))
        low = hi + 1
    return rows


def random_work(source):
    work = Work()
    work.settings = random_settings(source)
    work.widths = random_widths(source)
    most = source.choice((1, 3, 8, 20))
    for k in range(source.randrange(5)):
        work.paragraphs.append([random_thing(source, most) for at in range(source.randint(1, 6))])
    n = len(work.words)
    if n == 0:
        return work
    for k in sorted(source.randrange(n) for at in range(source.choice((0, 0, 1, 4)))):
        things = [random_thing(source, 3, "ab^") for at in range(source.randint(1, 4))]
        work.signs.append((k, " ".join(things)))
    few = source.choice((1, 2, 5, 9))
    for f in sorted(source.choice((0, n, source.randrange(n + 1))) for at in range(source.choice((0, 1, few)))):
        m = source.choice((0, 1, 2, source.randint(0, n)))
        tokens = [random_thing(source, source.choice((1, 12)), "ab1~|]") for at in range(source.randrange(4))]
        # Every breaking of a note is tried, so its things must stay few.
        if sum(1 + len(entry[2]) for entry in work.entries) + len(tokens) < 12:
            work.entries.append((f, min(m, n - f), tokens))
    return work


def grown(source, size):
    """Works one behind another in one, so long as the text has fewer bytes than that."""
    work = random_work(source)
    while len(work.text()) < size:
        more = random_work(source)
        n = len(work.words)
        work.paragraphs += more.paragraphs
        work.signs += [(number + n, sign) for number, sign in more.signs]
        work.entries += [(f + n, m, tokens) for f, m, tokens in more.entries]
    return work


def spoiled(source, text):
    """The text with a byte or two taken out, put in or put otherwise, or broken off."""
    found = bytearray(text)
    for k in range(source.randint(1, 2)):
        at = source.randrange(len(found) + 1)
        byte = source.choice(b"0129 \n^(>{[ab#~\x00\x7f\x80\xa0\xbf\xc2\xc3\xe0\xed\xef\xf0\xf4\xff")
        size = source.randrange(2)
        found[at:at + size] = bytes([byte]) * source.randrange(2)
    if source.random() < 0.2:
        found = found[:source.randrange(len(found) + 1)]
    return bytes(found)


def random_heavy(source):
    """A work whose notes have so many foot lines that pages are cut and feet stand alone."""
    work = Work()
    work.settings = random_settings(source)
    work.settings[:2] = [20, source.choice((6, 6, 7, 8))]
    work.widths = source.choice(([], [(97, 97, 2)], [(48, 57, 2)], [(48, 57, 0)]))
    for k in range(source.randint(1, 4)):
        work.paragraphs.append([random_thing(source, 20, "abc") for at in range(source.randint(1, 4))])
    n = len(work.words)
    for f in sorted(source.randrange(n + 1) for at in range(source.randint(1, 6))):
        tokens = ["t" * source.choice((1, 15, 19, 20, 21)) for at in range(source.choice((0, 2, 4, 6, 12)))]
        # A note of many narrow things has too many breakings to try them all.
        if sum(len(token) < 15 for token in tokens) < 4:
            work.entries.append((f, source.randint(0, n - f), tokens))
    return work


def random_tall(source):
    """A work of many lines on a page, so that numbers of two digits come into the notes."""
    work = Work()
    work.settings = random_settings(source)
    work.settings[:2] = [20, source.randint(11, 15)]
    work.widths = source.choice(([], [(48, 48, 2)], [(48, 57, 2)], [(48, 57, 0)]))
    for k in range(source.randint(8, 13)):
        work.paragraphs.append(["ab"[:source.randint(1, 2)]] * source.choice((1, 1, 1, 8)))
    n = len(work.words)
    for f in sorted(source.randint(n // 2, n) for at in range(source.randint(1, 3))):
        work.entries.append((f, source.randint(0, n - f), ["t" * source.randint(6, 14)]))
    return work


def random_anew(source):
    """A work whose notes hang on their lines' places on their pages, since digits take other cells."""
    work = random_heavy(source)
    work.settings[4] = 1
    work.widths = source.choice(([(49, 49, 2), (50, 57, 0)], [(49, 49, 0), (50, 57, 2)], [(49, 51, 0), (52, 57, 2)]))
    work.entries = []
    n = len(work.words)
    for f in sorted(source.randrange(n + 1) for at in range(source.randint(1, 4))):
        tokens = ["t" * source.randint(8, 19) for at in range(source.choice((1, 3, 5, 7)))]
        work.entries.append((f, source.randint(0, 1) if f < n else 0, tokens))
    return work


class Printed:
    """What is printed, read again: its lines and foot lines page by page, and the work it came from."""

    def __init__(self, printed):
        text = printed.decode()
        self.pages = []
        self.head = []
        for line in text[:-1].split("\n"):
            if line.startswith("="):
                self.pages.append(([], []))
                foot = False
            elif not self.pages:
                self.head.append(line)
            elif line == "~":
                foot = True
            else:
                self.pages[-1][foot].append(line)
        self.settings = [int(number) for number in self.head[0][1:].split(" ")]
        self.read_lines()
        self.read_notes()

    def read_lines(self):
        self.work = Work()
        self.work.settings = self.settings
        self.work.widths = [tuple(int(number) for number in row[1:].split(" ")) for row in self.head[1:]]
        self.lines = []
        for line in (line for page in self.pages for line in page[0]):
            body = line[5:]
            if body.startswith(" "):
                self.work.paragraphs.append([])
            body, brace, texts = body.lstrip(" ").partition(" {")
            texts = texts[:-1].split("|")
            first = len(self.work.words)
            for k, word in enumerate(body.split(" "), start=first):
                for stroke in range(len(word) - len(word.lstrip("|"))):
                    self.work.signs.append((k, texts.pop(0)))
                self.work.paragraphs[-1].append(word.lstrip("|"))
            self.lines.append((first, len(self.work.words)))

    def read_notes(self):
        at = -1
        first = 0
        for lines, foot in self.pages:
            for thing in (thing for line in foot for thing in line[1:].split(" ")):
                if thing.startswith("#"):
                    at = int(thing[1:]) - 1 + (first if self.settings[4] else 0)
                    assert first <= at < first + len(lines), "a note that begins on another page"
                elif thing.startswith("["):
                    self.work.entries.append(self.entry(thing[1:-1], at) + ([],))
                else:
                    self.work.entries[-1][2].append(thing)
            first += len(lines)

    def entry(self, key, at):
        words = self.work.words
        if key == "+":
            return len(words), 0
        start, mark, span = key.lstrip("+").partition("~")
        letters, mark, which = start.partition("^")
        like = [k for k in range(*self.lines[at]) if words[k] == letters]
        assert (len(like) > 1) == (mark == "^"), "a place among like words where there are none, or no place"
        f = like[int(which or 1) - 1]
        m = 0 if key.startswith("+") else int(span.partition("~")[0] or 1)
        assert m < 2 or words[f + m - 1] == span.partition("~")[2], "another last word"
        return f, m


def unprinted(data):
    """The text of the work whose pages these bytes are, or None."""
    try:
        found = Printed(bytes(data)).work.text()
    except (ValueError, IndexError, AssertionError, UnboundLocalError):
        return None
    work = parse(found)
    return found if work is not None and printed(work) == bytes(data) else None
