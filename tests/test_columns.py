import random
import time
import unittest
import unittest.mock

from tests import oracle, tables
from tests.oracle import MARKS, text
from vellumpages.setting import columns

SET = "^8 6 2"
MOST = "^120 240 4"


def data(shown):
    return list(shown if isinstance(shown, bytes) else shown.encode())


class ColumnsCase(unittest.TestCase):
    maxDiff = None

    def shows(self, table, *lines):
        """The table, whose head is its first line, prints to that head and these lines."""
        handed = data(table)
        answer = columns(handed)
        self.assertEqual(bytes(answer[1:]).decode(), text(table.partition("\n")[0], *lines))
        self.assertEqual(answer[0], len(answer) - 1)
        self.assertTrue(type(answer) is list and all(type(number) is int for number in answer))
        self.assertEqual(columns(handed), answer)
        self.assertEqual(handed, data(table))

    def refuses(self, *texts):
        for one in texts:
            handed = data(one)
            self.assertEqual(columns(handed), [-6], one)
            self.assertEqual(columns(handed), [-6], one)
            self.assertEqual(handed, data(one))

    def pages_have(self, height, counts, *pages):
        """Rows of so many lines each stand on pages of so many lines each."""
        rows = ["=" + " ".join(["aaaaa"] * count) + "|" for count in counts]
        lines = [mark + "aaaaa   |" for count in counts for mark in ">" + " " * (count - 1)]
        shown = []
        for at, many in enumerate(pages):
            shown += [f"={at + 1}"] + lines[sum(pages[:at]):sum(pages[:at]) + many]
        self.assertEqual(sum(pages), len(lines))
        self.shows(text(f"^8 {height} 2", *rows), *shown)


class Rows(ColumnsCase):
    def test_no_rows(self):
        for head in (SET, MOST, "^8 240 2", "^120 6 3"):
            self.shows(text(head))

    def test_two_three_and_four_cells(self):
        self.shows(text("^8 6 2", "=a|b"), "=1", ">a       |b")
        self.shows(text("^8 6 3", "=a|b|c"), "=1", ">a       |b       |c")
        self.shows(text("^8 6 4", "=a|b|c|d", "=e|f|g|h"), "=1", ">a       |b       |c       |d",
                   ">e       |f       |g       |h")

    def test_empty_cells(self):
        self.shows(text("^8 6 3", "=|b|c", "=a||c", "=a|b|", "=a||", "=|b|", "=||c"), "=1", ">        |b       |c",
                   ">a       |        |c", ">a       |b       |", ">a       |        |", ">        |b       |",
                   ">        |        |c")

    def test_all_cells_empty(self):
        self.shows(text(SET, "=|"), "=1", ">        |")
        self.shows(text(SET, "=|", "=|", "=a|", "=|"), "=1", ">        |", ">        |", ">a       |", ">        |")
        self.shows(text("^8 6 4", "=|||"), "=1", ">        |        |        |")
        # Each has one line, so six of them fill a page.
        self.shows(text(SET, *["=|"] * 7), "=1", *[">        |"] * 6, "=2", ">        |")

    def test_cells_of_several_lines(self):
        self.shows(text(SET, "=aaaa bbbb cc|dd"), "=1", ">aaaa    |dd", " bbbb cc |")
        self.shows(text(SET, "=dd|aaaa bbbb cc"), "=1", ">dd      |aaaa", "         |bbbb cc")
        self.shows(text("^8 6 3", "=a|bbbbb ccccc ddddd|eeeee fffff", "=g|h|i"), "=1", ">a       |bbbbb   |eeeee",
                   "         |ccccc   |fffff", "         |ddddd   |", ">g       |h       |i")
        self.shows(text(SET, "=|aaaaa bbbbb"), "=1", ">        |aaaaa", "         |bbbbb")

    def test_several_words_in_a_line(self):
        self.shows(text(SET, "=a b c|d e"), "=1", ">a b c   |d e")
        self.shows(text(SET, "=a b c d|a b c d"), "=1", ">a b c d |a b c d")
        self.shows(text(SET, "=aa bb cc|aa bb cc"), "=1", ">aa bb cc|aa bb cc")

    def test_word_that_fills_its_cell(self):
        self.shows(text(SET, "=aaaaaaaa|bbbbbbbb"), "=1", ">aaaaaaaa|bbbbbbbb")
        self.shows(text(SET, "=aaaaaaa|bbbbbbb"), "=1", ">aaaaaaa |bbbbbbb")

    def test_word_that_sticks_out(self):
        long = "x" * 9
        self.shows(text("^8 6 3", f"={long}|b|c"), "=1", f">{long}|b       |c")
        self.shows(text("^8 6 3", f"=a|{long}|c"), "=1", f">a       |{long}|c")
        self.shows(text("^8 6 3", f"=a|b|{long}"), "=1", f">a       |b       |{long}")
        self.shows(text("^8 6 3", f"={long}||"), "=1", f">{long}|        |")
        self.shows(text(SET, f"=a {long} b|c"), "=1", ">a       |c", f" {long}|", " b       |")
        self.shows(text(SET, "=" + "x" * 64 + "|" + "y" * 64), "=1", ">" + "x" * 64 + "|" + "y" * 64)

    def test_letters_of_several_bytes_take_one_cell(self):
        self.shows(text(SET, "=\u00e9\u4e2d\U0001f600|\u00e9"), "=1", ">\u00e9\u4e2d\U0001f600     |\u00e9")
        self.shows(text(SET, "=" + "\U0001f600" * 8 + "|a"), "=1", ">" + "\U0001f600" * 8 + "|a")
        self.shows(text(SET, "=" + "\u4e2d" * 9 + "|a"), "=1", ">" + "\u4e2d" * 9 + "|a")
        self.shows(text(SET, "=\u00e9\u00e9\u00e9 \u00e9\u00e9\u00e9\u00e9 \u00e9|a"), "=1",
                   ">\u00e9\u00e9\u00e9 \u00e9\u00e9\u00e9\u00e9|a", " \u00e9       |")

    def test_least_and_most(self):
        word = "w" * 60
        for head, width in (("^8 6 2", 8), ("^120 240 2", 120), ("^8 240 2", 8), ("^120 6 2", 120)):
            self.shows(text(head, "=a|b"), "=1", ">a" + " " * (width - 1) + "|b")
        self.shows(text(MOST, "=a||c|d"), "=1", ">a" + " " * 119 + "|" + " " * 120 + "|c" + " " * 119 + "|d")
        self.shows(text("^120 6 2", f"={word[1:]} {word}|"), "=1", f">{word[1:]} {word}|")
        self.shows(text("^120 6 2", f"={word} {word}|"), "=1", f">{word}" + " " * 60 + "|", f" {word}" + " " * 60 + "|")

    def test_words_of_most_letters(self):
        for letter in ("a", "\u00e9", "\u4e2d", "\U0001f600", "\U0010fffd"):
            self.shows(text("^120 6 2", f"={letter * 64}|{letter}"), "=1", f">{letter * 64}" + " " * 56 + f"|{letter}")

    def test_letters_of_every_kind(self):
        for letter in "!$%&'*,-.0:;?@A\\_`z\u00a0\u00ad\u00ff\ud7ff\ue000\ufffd\U00010000\U0001fffd\U0010fffd":
            self.shows(text(SET, f"={letter}|{letter}{letter}"), "=1", f">{letter}       |{letter}{letter}")


class Breakings(ColumnsCase):
    def test_the_square_of_what_is_left(self):
        # 2 and 2 left, or 0 and 4: the evener one costs less.
        self.shows(text(SET, "=aaaaaa b cccc dddddddd|"), "=1", ">aaaaaa  |", " b cccc  |", " dddddddd|")

    def test_alike_takes_more_words_first(self):
        # 2 and 0 left, or 0 and 2.
        self.shows(text(SET, "=aaaaaa b cccccc ddddd|"), "=1", ">aaaaaa b|", " cccccc  |", " ddddd   |")

    def test_the_last_line_costs_nothing(self):
        self.shows(text(SET, "=aaa bbbb c|"), "=1", ">aaa bbbb|", " c       |")

    def test_no_indent(self):
        self.shows(text(SET, "=aaa bbbb cccc ddd|"), "=1", ">aaa bbbb|", " cccc ddd|")

    def test_each_cell_by_itself(self):
        self.shows(text("^8 6 4", "=aaaaaaaa b|aaa aaaa b|aaaaaa b cccccc ddddd|a"), "=1",
                   ">aaaaaaaa|aaa aaaa|aaaaaa b|a", " b       |b       |cccccc  |", "         |        |ddddd   |")

    def test_a_word_that_does_not_fit_costs_nothing(self):
        # Nor may others stand beside it.
        self.shows(text(SET, "=a " + "x" * 9 + " b c|"), "=1", ">a       |", " " + "x" * 9 + "|", " b c     |")


class Pages(ColumnsCase):
    def test_rows_of_one_line(self):
        for count in range(1, 30):
            full = [6] * (count // 6) + [count % 6] * (count % 6 > 0)
            self.pages_have(6, [1] * count, *full)

    def test_row_that_just_fits(self):
        self.pages_have(6, [4, 2], 6)
        self.pages_have(6, [4, 2, 1], 6, 1)
        self.pages_have(6, [1, 5], 6)
        self.pages_have(6, [3, 3, 6], 6, 6)

    def test_row_that_does_not_fit_by_one_line(self):
        self.pages_have(6, [4, 3], 4, 3)
        self.pages_have(6, [1, 6], 1, 6)
        self.pages_have(6, [1, 6, 1], 1, 6, 1)
        self.pages_have(6, [5, 2, 4], 5, 6)
        self.pages_have(6, [5, 2, 5], 5, 2, 5)

    def test_row_of_just_a_page(self):
        self.pages_have(6, [6], 6)
        self.pages_have(6, [6, 6], 6, 6)
        self.pages_have(6, [2, 6, 2], 2, 6, 2)

    def test_row_of_more_than_a_page_on_an_empty_one(self):
        self.pages_have(6, [7], 6, 1)
        self.pages_have(6, [12], 6, 6)
        self.pages_have(6, [13], 6, 6, 1)
        self.pages_have(6, [6, 7], 6, 6, 1)

    def test_row_of_more_than_a_page_behind_others(self):
        self.pages_have(6, [1, 7], 1, 6, 1)
        self.pages_have(6, [5, 7], 5, 6, 1)
        self.pages_have(6, [5, 20], 5, 6, 6, 6, 2)

    def test_what_follows_a_row_of_more_than_a_page(self):
        self.pages_have(6, [7, 1], 6, 2)
        self.pages_have(6, [7, 5], 6, 6)
        self.pages_have(6, [7, 6], 6, 1, 6)
        self.pages_have(6, [7, 7], 6, 1, 6, 1)
        self.pages_have(6, [12, 1], 6, 6, 1)
        self.pages_have(6, [12, 7, 3, 3], 6, 6, 6, 4, 3)
        self.pages_have(6, [8, 2, 2, 1], 6, 6, 1)

    def test_other_heights(self):
        self.pages_have(7, [7, 8, 6], 7, 7, 7)
        self.pages_have(7, [1, 7, 6], 1, 7, 6)
        self.pages_have(239, [200, 39, 1], 239, 1)
        self.pages_have(240, [200, 40, 1], 240, 1)
        self.pages_have(240, [200, 41, 1], 200, 42)
        self.pages_have(240, [1, 241, 239], 1, 240, 240)

    def test_the_longest_cell_tells(self):
        for long in range(3):
            row = "=" + "|".join(" ".join(["aaaaa"] * (6 if cell == long else 2)) for cell in range(3))
            answer = columns(data(text("^8 6 3", "=||", row, "=a||")))
            pages = bytes(answer[1:]).decode().split("=")[1:]
            self.assertEqual([page.count("\n") - 1 for page in pages], [1, 6, 1])

    def test_many_pages(self):
        self.pages_have(6, [1] * 700, *[6] * 116, 4)


class Refused(ColumnsCase):
    def test_no_bytes(self):
        self.assertEqual(columns([]), [-6])

    def test_head(self):
        for head in ("^7 6 2", "^121 6 2", "^8 5 2", "^8 241 2", "^8 6 1", "^8 6 5", "^0 6 2", "^8 0 2", "^8 6 0",
                     "^08 6 2", "^8 06 2", "^8 6 02", "^8 6", "^8", "^", "^8 6 2 ", "^8 6 2 2", "^ 8 6 2", "^8  6 2",
                     "^8 6  2", "8 6 2", "", " ^8 6 2", "^^8 6 2", "^8 6 2\r", "^8\t6 2", "^-8 6 2", "^+8 6 2", "^8,6,2",
                     "^8 6 2|", "^a 6 2", "^8 6 a", "=8 6 2", "^1000 6 2", "^8 6 20", "^80 60 20", "^" + "9" * 5000 + " 6 2",
                     "^\u0668 6 2", "^20 6 1 1 0 0"):
            self.refuses(text(head), text(head, "=a|b"), text(head, "=|"))

    def test_every_head(self):
        for at, (low, high) in enumerate([(8, 120), (6, 240), (2, 4)]):
            for number in range(300):
                head = ["8", "6", "2"]
                head[at] = str(number)
                answer = columns(data(text("^" + " ".join(head))))
                self.assertEqual(answer == [-6], not low <= number <= high)

    def test_how_many_cells(self):
        for count in (2, 3, 4):
            for cells in range(1, 6):
                for cell in ("", "a", "a b"):
                    row = "=" + "|".join([cell] * cells)
                    answer = columns(data(text(f"^8 6 {count}", row)))
                    self.assertEqual(answer == [-6], cells != count, row)
                    answer = columns(data(text(f"^8 6 {count}", "=" + "|" * (count - 1), row)))
                    self.assertEqual(answer == [-6], cells != count, row)

    def test_blanks(self):
        for row in ("=a |b", "=a| b", "=a | b", "= a|b", "=a|b ", "= |b", "=a| ", "= | ", "=a  b|c", "=a|b  c", "=  |",
                    "=a |", "=| b", " =a|b", "=a\tb|c", "=a\u00a0 |c", "= ", "=\t|a"):
            self.refuses(text(SET, row), text(SET, "=a|b", row), text(SET, row, "=a|b"))
        self.refuses(text("^8 6 3", "=a| |b"), text("^8 6 3", "=a| b|c"), text("^8 6 3", "=a|b |c"))

    def test_rows(self):
        for row in ("", "a|b", ">a|b", "|", "==a|b", "=a=|b", "^8 6 2", "[a|b", "=", "a", " "):
            self.refuses(text(SET, row), text(SET, "=a|b", row), text(SET, row, "=a|b"))

    def test_marks(self):
        for mark in MARKS.replace("|", ""):
            self.refuses(text(SET, f"=a{mark}|b"), text(SET, f"={mark}|b"), text(SET, f"=a|{mark}b"),
                         text(SET, f"=a|b{mark}"), text(SET, f"=a|b {mark}"), text(SET, f"=a b{mark}c|d"))

    def test_no_letters(self):
        for number in (*range(10), *range(11, 32), *range(127, 160), 0xFFFE, 0xFFFF, 0x1FFFE, 0x1FFFF, 0x10FFFE, 0x10FFFF):
            letter = chr(number)
            self.refuses(text(SET, f"={letter}|b"), text(SET, f"=a{letter}|b"), text(SET, f"=a|b{letter}"),
                         text(SET, f"=a|b {letter}"))

    def test_long_words(self):
        for letter in ("a", "\u00e9", "\u4e2d", "\U0001f600"):
            word = letter * 65
            self.refuses(text("^120 6 2", f"={word}|b"), text("^120 6 2", f"=a|{word}"), text("^120 6 2", f"=a {word}|b"),
                         text("^120 6 2", f"={word} a|b"))

    def test_broken_characters(self):
        for bad in (b"\x80", b"\xbf", b"\xc3", b"\xc0\xaf", b"\xc1\xbf", b"\xe4\xb8", b"\xe0\x80\xaf", b"\xe0\x9f\xbf",
                    b"\xed\xa0\x80", b"\xed\xbf\xbf", b"\xf0\x9f\x98", b"\xf0\x80\x80\xaf", b"\xf0\x8f\xbf\xbf",
                    b"\xf4\x90\x80\x80", b"\xf5\x80\x80\x80", b"\xff", b"\xfe", b"\xc3\x28", b"\xe4\xb8a"):
            for before, behind in ((b"=", b"|b\n"), (b"=a", b"|b\n"), (b"=a|", b"\n"), (b"=a|b", b"\n"), (b"=a|b ", b" c\n")):
                self.refuses(text(SET).encode() + before + bad + behind)

    def test_last_line_without_its_end(self):
        self.refuses(SET, text(SET) + "=a|b", text(SET, "=a|b") + "=", text(SET, "=a|b") + "=a", text(SET, "=a|b") + "=a|",
                     text(SET) + "=|", text(SET, "=a|b")[:-1])

    def test_behind_the_end(self):
        for more in ("\n", " ", "a", "^8 6 2\n", ">a|b\n", "\x00", "|", "=1\n"):
            self.refuses(text(SET) + more, text(SET, "=a|b") + more)

    def test_every_beginning(self):
        whole = text("^12 10 3", "=a bc|\u00e9|", "=||", "=d||\u4e2d \U0001f600").encode()
        ends = [k + 1 for k, byte in enumerate(whole) if byte == 10]
        for size in range(len(whole)):
            self.assertEqual(columns(list(whole[:size])) == [-6], size not in ends, size)

    def test_too_long(self):
        self.assertEqual(columns([94] * 1048577), [-2])
        self.assertEqual(columns([94] * 1048576), [-6])
        words = " ".join(["a" * 63] * 16383)
        table = data(text(SET, f"={words}|" + "a" * 55))
        self.assertEqual(len(table), 1048576)
        self.assertGreater(columns(table)[0], 1048576)
        self.assertEqual(columns(data(text(SET, f"={words}|" + "a" * 56))), [-2])

    def test_printed_too_long(self):
        # No table of so few bytes comes to the bound, so it is lowered.
        table = data(text(SET, "=a|b"))
        size = len(text(SET, "=1", ">a       |b"))
        for most, expected in ((size, size), (size - 1, -2)):
            with unittest.mock.patch("vellumpages.setting.MOST_PRINTED_BYTES", most):
                self.assertEqual(columns(table)[0], expected)
                self.assertEqual(len(columns(table)), 1 + max(0, expected))
                self.assertEqual(columns(table + [0]), [-6])

    def test_most_rows_and_words(self):
        for count, refused in ((8192, False), (8193, True)):
            self.assertEqual(columns(data(text(SET, *["=|"] * count))) == [-6], refused)
        for count, refused in ((65536, False), (65537, True)):
            halves = [" ".join(["a"] * size) for size in (count // 2, count - count // 2)]
            self.assertEqual(columns(data(text(MOST, "=||" + "|".join(halves)))) == [-6], refused)
            self.assertEqual(columns(data(text(MOST, f"={halves[0]}|||", f"=|{halves[1]}||"))) == [-6], refused)
        words = " ".join(["a"] * 65536)
        self.assertNotEqual(columns(data(text(SET, f"={words}|", "=|"))), [-6])
        self.refuses(text(SET, f"={words}|a"), text(SET, f"={words}|", "=a|"), text(SET, f"={words}|", "=|a"))


class AgainstTheWords(ColumnsCase):
    def check(self, handed, breaking=oracle.best_breaking):
        table = tables.parse(handed)
        if table is None:
            self.assertEqual(columns(list(handed)), [-6], handed)
            return 0
        expected = tables.printed(table, breaking)
        answer = columns(list(handed))
        self.assertEqual(bytes(answer[1:]), expected, handed.decode())
        self.assertEqual(answer[0], len(expected))
        return 1

    def test_tables(self):
        source = random.Random(100)
        for k in range(1500):
            table = tables.random_table(source)
            self.assertEqual(self.check(table.text()), 1)

    def test_long_tables(self):
        source = random.Random(101)
        for k in range(40):
            self.check(tables.random_long_table(source, 4000).text(), tables.quick_breaking)

    def test_one_cell(self):
        source = random.Random(102)
        for k in range(800):
            cell = ["a" * source.randint(1, 9) for word in range(source.randint(1, 10))]
            self.check(tables.Table(8, 240, 2, [[cell, []]]).text())

    def test_spoiled_tables(self):
        source = random.Random(103)
        held = 0
        for k in range(3000):
            held += self.check(tables.spoiled(source, tables.random_table(source).text()))
        self.assertGreater(held, 300)

    def test_every_byte(self):
        whole = text(SET, "=a|\u00e9 b", "=|").encode()
        for at in range(len(whole) + 1):
            self.check(whole[:at] + whole[at + 1:])
            for byte in range(256):
                self.check(whole[:at] + bytes([byte]) + whole[at:])
                self.check(whole[:at] + bytes([byte]) + whole[at + 1:])


class Calls(ColumnsCase):
    def test_nothing_is_kept_or_changed(self):
        first = data(text("^9 6 3", "=a b|c|", "=|d|e f"))
        other = data(text("^8 7 2", "=aaaaa bbbbb|c"))
        copies = [list(first), list(other)]
        answers = [columns(first), columns(other), columns([]), columns(first[:-1])]
        self.assertEqual([answer[0] for answer in answers], [57, 33, -6, -6])
        for k in range(3):
            self.assertEqual([columns(first), columns(other), columns([]), columns(first[:-1])], answers)
            columns(first).append(k)
            self.assertEqual([first, other], copies)

    def test_as_much_as_can_be_handed_in(self):
        for table in (text(MOST, *["=|||"] * 1600), text(SET, *["=|"] * 2700), text(MOST, "=" + "a " * 4080 + "a|||"),
                      text("^8 6 4", "=|||" + "a " * 4080 + "a"), text("^120 6 4", "=" + ("a" * 59 + " ") * 136 + "b|||")):
            self.assertLessEqual(len(table), 8191)
            begun = time.monotonic()
            self.assertEqual(bytes(columns(data(table))[1:]), tables.printed(tables.parse(data(table)), tables.quick_breaking))
            self.assertLess(time.monotonic() - begun, 60)


if __name__ == "__main__":
    unittest.main()
