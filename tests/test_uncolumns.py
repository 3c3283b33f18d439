import random
import time
import unittest
import unittest.mock

from tests import tables
from tests.oracle import MARKS, lot_breaking, text
from vellumpages.setting import columns, uncolumns

SET = "^8 6 2"
SIGNS = b"0129 \n^=|>ab~\x00\x7f\x80\xc3\xff"


def data(shown):
    return list(shown if isinstance(shown, bytes) else shown.encode())


class UncolumnsCase(unittest.TestCase):
    maxDiff = None

    def gives(self, shown, table):
        """What is shown is printed by this table: it gives it back."""
        handed = data(shown)
        answer = uncolumns(handed)
        self.assertEqual(bytes(answer[1:]).decode(), table)
        self.assertEqual(answer[0], len(answer) - 1)
        self.assertTrue(type(answer) is list and all(type(number) is int for number in answer))
        self.assertEqual(uncolumns(handed), answer)
        self.assertEqual(handed, data(shown))

    def refuses(self, *shown):
        for one in shown:
            handed = data(one)
            self.assertEqual(uncolumns(handed), [-6], one)
            self.assertEqual(uncolumns(handed), [-6], one)
            self.assertEqual(handed, data(one))

    def comes_back(self, table):
        """The printed table gives it back, whatever it is."""
        shown = bytes(columns(data(table))[1:]).decode()
        self.gives(shown, table)
        return shown

    def only(self, table, right, *wrong):
        """Of these bodies behind the head just the right one is the table's print."""
        head = table.partition("\n")[0] + "\n"
        self.gives(head + right, table)
        self.refuses(*[head + one for one in wrong])


class GivenBack(UncolumnsCase):
    def test_no_rows(self):
        for head in (SET, "^120 240 4", "^8 240 3", "^120 6 2"):
            self.gives(text(head), text(head))

    def test_rows(self):
        self.gives(text(SET, "=1", ">a       |b"), text(SET, "=a|b"))
        self.gives(text("^8 6 3", "=1", ">a       |b       |c"), text("^8 6 3", "=a|b|c"))
        self.gives(text("^8 6 4", "=1", ">a       |b       |c       |d", ">e       |        |        |"),
                   text("^8 6 4", "=a|b|c|d", "=e|||"))
        self.gives(text(SET, "=1", ">a b c   |d e"), text(SET, "=a b c|d e"))

    def test_empty_cells(self):
        self.gives(text(SET, "=1", ">        |"), text(SET, "=|"))
        self.gives(text(SET, "=1", *[">        |"] * 6, "=2", ">        |a"), text(SET, *["=|"] * 6, "=|a"))
        self.gives(text("^8 6 4", "=1", ">        |        |        |"), text("^8 6 4", "=|||"))
        for cells in range(16):
            row = "=" + "|".join("a" if cells >> k & 1 else "" for k in range(4))
            self.comes_back(text("^8 6 4", row, row))

    def test_cells_of_several_lines(self):
        self.gives(text(SET, "=1", ">aaaa    |dd", " bbbb cc |", ">e       |"), text(SET, "=aaaa bbbb cc|dd", "=e|"))
        self.gives(text(SET, "=1", ">        |aaaaa", "         |bbbbb"), text(SET, "=|aaaaa bbbbb"))
        self.gives(text("^8 6 3", "=1", ">a       |bbbbb   |eeeee", "         |ccccc   |fffff", "         |ddddd   |"),
                   text("^8 6 3", "=a|bbbbb ccccc ddddd|eeeee fffff"))

    def test_words_that_stick_out(self):
        long = "x" * 9
        for cells in (f"{long}|b|c", f"a|{long}|c", f"a|b|{long}", f"{long}||", f"|{long}|", f"||{long}",
                      f"{long} a|b|c", f"a {long}|b|c", f"{long}|{long}|{long}", "|".join(["x" * 64] * 3)):
            self.comes_back(text("^8 6 3", "=" + cells, "=" + cells))
        self.gives(text(SET, "=1", f">{long}|b"), text(SET, f"={long}|b"))

    def test_letters_of_several_bytes(self):
        self.gives(text(SET, "=1", ">\u00e9\u4e2d\U0001f600     |\u00e9"), text(SET, "=\u00e9\u4e2d\U0001f600|\u00e9"))
        self.gives(text(SET, "=1", ">" + "\U0001f600" * 8 + "|\u00a0"), text(SET, "=" + "\U0001f600" * 8 + "|\u00a0"))
        self.comes_back(text("^120 6 2", "=" + "\U0010fffd" * 64 + "|" + "\u00e9" * 64))

    def test_pages(self):
        rows = {count: "=" + " ".join(["aaaaa"] * count) + "|" for count in range(1, 30)}
        for counts in ([4, 2], [4, 3], [6], [6, 6], [1, 6, 1], [7], [12], [13], [1, 7], [5, 20, 3], [7, 5], [7, 6], [7, 7],
                       [12, 1], [12, 7, 3, 3], [1] * 40, [29, 29]):
            self.comes_back(text(SET, *[rows[count] for count in counts]))

    def test_long_page_numbers(self):
        self.comes_back(text(SET, *["=|"] * 700))

    def test_least_and_most(self):
        for head in ("^8 6", "^120 240", "^8 240", "^120 6"):
            for count in (2, 3, 4):
                row = "=" + "|".join(["a bb " + "c" * 64] * count)
                self.comes_back(text(f"{head} {count}", *[row] * 7))


class AgainstTheWords(UncolumnsCase):
    def check(self, table, breaking=tables.best_breaking):
        expected = list(table.text())
        handed = list(tables.printed(table, breaking))
        self.assertEqual(uncolumns(handed), [len(expected)] + expected, table.text().decode())
        self.assertEqual(handed, list(tables.printed(table, breaking)))

    def test_tables(self):
        source = random.Random(110)
        for k in range(700):
            self.check(tables.random_table(source))

    def test_long_tables(self):
        source = random.Random(111)
        for k in range(25):
            self.check(tables.random_long_table(source, 3000), tables.quick_breaking)

    def test_columns_give_their_rows_back(self):
        source = random.Random(112)
        for k in range(500):
            self.comes_back(tables.random_table(source).text().decode())
        for k in range(10):
            self.comes_back(tables.random_long_table(source, 6000).text().decode())


class Heads(UncolumnsCase):
    def test_no_bytes(self):
        self.assertEqual(uncolumns([]), [-6])

    def test_heads(self):
        body = ("=1", ">a       |b")
        self.gives(text(SET, *body), text(SET, "=a|b"))
        for head in ("^7 6 2", "^121 6 2", "^8 5 2", "^8 241 2", "^8 6 1", "^8 6 5", "^08 6 2", "^8 06 2", "^8 6 02",
                     "^8 6", "^", "", "^8 6 2 ", "^8 6 2 2", "^ 8 6 2", "^8  6 2", "8 6 2", " ^8 6 2", "^8 6 2\r", "^9 6 2",
                     "^8 6 3", "^8 6 4", "^a 6 2", "^" + "9" * 5000 + " 6 2"):
            self.refuses(text(head, *body))
        for head in ("^7 6 2", "^121 6 2", "^8 5 2", "^8 241 2", "^8 6 1", "^8 6 5", "^08 6 2", "", "^", "^8 6 2 "):
            self.refuses(text(head))
        self.refuses(text(SET, SET, *body), text(*body), "\n")

    def test_other_numbers(self):
        # Another height is another table's, where no page tells it.
        self.gives(text("^8 240 2", "=1", ">a       |b"), text("^8 240 2", "=a|b"))
        self.refuses(text("^8 7 2", "=1", *[">        |"] * 6, "=2", ">        |"))
        self.refuses(text("^8 6 2", "=1", *[">        |"] * 7))
        self.gives(text("^8 7 2", "=1", *[">        |"] * 7), text("^8 7 2", *["=|"] * 7))

    def test_a_text_is_no_print(self):
        self.refuses(text(SET, "=a|b"), text(SET, "=|"), text(SET, "=|", "=|"))

    def test_pages_without_rows(self):
        self.refuses(text(SET, "=1"), text(SET, "=1", "=2"), text(SET, "=1", ">        |", "=2"),
                     text(SET, "=1", "=2", ">        |"))


class Pages(UncolumnsCase):
    def test_page_numbers(self):
        right = text("=1", *[">        |"] * 6, "=2", ">        |")
        self.only(text(SET, *["=|"] * 7), right, *[right.replace("=1", number) for number in (
            "=0", "=2", "=", "=01", "= 1", "=1 ", "=11", "1", "==1", "=x", "=-1", "=" + "9" * 5000)],
            *[right.replace("=2", number) for number in ("=1", "=3", "=02", "=", "=2 ", "=12", "2", ">2", " 2")],
            right.replace("=1\n", ""), right.replace("=2\n", ""), right.replace("=1\n", "=1"), right + "=3\n")

    def test_rows_before_the_first_page(self):
        self.refuses(text(SET, ">a       |b"), text(SET, ">a       |b", "=1"), text(SET, ">a       |b", "=1", ">a       |b"))

    def test_pages_that_begin_elsewhere(self):
        one = ">        |"
        self.only(text(SET, *["=|"] * 3), text("=1", one, one, one), text("=1", one, "=2", one, one),
                  text("=1", one, one, "=2", one), text("=1", one, "=2", one, "=3", one))
        self.only(text(SET, *["=|"] * 8), text("=1", *[one] * 6, "=2", *[one] * 2),
                  text("=1", *[one] * 5, "=2", *[one] * 3), text("=1", *[one] * 2, "=2", *[one] * 6),
                  text("=1", *[one] * 7, "=2", one), text("=1", *[one] * 8))

    def test_row_that_is_parted(self):
        row = [">aaaaa   |", " aaaaa   |", " aaaaa   |"]
        table = text(SET, "=|", "=|", "=|", "=|", "=aaaaa aaaaa aaaaa|")
        one = [">        |"] * 4
        self.only(table, text("=1", *one, "=2", *row), text("=1", *one, *row[:2], "=2", row[2]),
                  text("=1", *one, row[0], "=2", *row[1:]), text("=1", *one, *row))

    def test_long_row_that_begins_elsewhere(self):
        row = [">aaaaa   |"] + [" aaaaa   |"] * 6
        table = text(SET, "=|", "=" + " ".join(["aaaaa"] * 7) + "|", "=|")
        one = ">        |"
        self.only(table, text("=1", one, "=2", *row[:6], "=3", row[6], one), text("=1", one, *row[:5], "=2", *row[5:], one),
                  text("=1", one, "=2", *row[:6], "=3", row[6], "=4", one), text("=1", one, "=2", *row, one),
                  text("=1", one, "=2", *row[:5], "=3", *row[5:], one), text("=1", one, "=2", *row[:6], row[6], "=3", one))

    def test_no_page_more(self):
        self.only(text(SET, "=|"), text("=1", ">        |"), text("=1", ">        |", "=2"))


class Breakings(UncolumnsCase):
    def test_another_breaking_of_a_cell(self):
        self.only(text(SET, "=a b c|d"), text("=1", ">a b c   |d"), text("=1", ">a b     |d", " c       |"),
                  text("=1", ">a       |d", " b c     |"), text("=1", ">a       |d", " b       |", " c       |"))
        self.only(text(SET, "=d|a b"), text("=1", ">d       |a b"), text("=1", ">d       |a", "         |b"))

    def test_another_that_costs_the_same(self):
        self.only(text(SET, "=aaaaaa b cccccc ddddd|"), text("=1", ">aaaaaa b|", " cccccc  |", " ddddd   |"),
                  text("=1", ">aaaaaa  |", " b cccccc|", " ddddd   |"))
        self.only(text(SET, "=|aaaaaa b cccccc ddddd"), text("=1", ">        |aaaaaa b", "         |cccccc", "         |ddddd"),
                  text("=1", ">        |aaaaaa", "         |b cccccc", "         |ddddd"))

    def test_another_that_costs_more(self):
        self.only(text(SET, "=aaaaaa b cccc dddddddd|"), text("=1", ">aaaaaa  |", " b cccc  |", " dddddddd|"),
                  text("=1", ">aaaaaa b|", " cccc    |", " dddddddd|"))

    def test_several_words_that_do_not_fit(self):
        self.only(text(SET, "=aaaaaaaa b|"), text("=1", ">aaaaaaaa|", " b       |"), text("=1", ">aaaaaaaa b|"))
        self.only(text(SET, "=|aaaaaaaa b"), text("=1", ">        |aaaaaaaa", "         |b"), text("=1", ">        |aaaaaaaa b"))

    def test_lines_with_nothing(self):
        self.only(text(SET, "=a|"), text("=1", ">a       |"), text("=1", ">a       |", "         |"),
                  text("=1", ">        |", " a       |"), text("=1", "         |", ">a       |"))
        self.only(text(SET, "=aaaaa bbbbb|"), text("=1", ">aaaaa   |", " bbbbb   |"),
                  text("=1", ">aaaaa   |", "         |", " bbbbb   |"), text("=1", ">aaaaa   |", " bbbbb   |", "         |"))

    def test_words_that_begin_further_down(self):
        self.only(text(SET, "=aaaaa bbbbb|c"), text("=1", ">aaaaa   |c", " bbbbb   |"), text("=1", ">aaaaa   |", " bbbbb   |c"))

    def test_no_row_is_begun(self):
        self.refuses(text(SET, "=1", " a       |b"), text(SET, "=1", "         |"), text(SET, "=1", " a       |b", ">c       |d"))

    def test_another_by_lot(self):
        # The same cells in other lines, on other pages.
        source = random.Random(113)
        refused = 0
        for k in range(400):
            table = tables.random_table(source)
            right = tables.printed(table)
            breaking = source.choice((lot_breaking(source), tables.best_breaking))
            paging = source.choice((tables.lot_pages(source), tables.pages_of))
            shown = tables.printed(table, breaking, paging)
            expected = [len(table.text())] + list(table.text()) if shown == right else [-6]
            self.assertEqual(uncolumns(list(shown)), expected, shown.decode())
            refused += shown != right
        self.assertGreater(refused, 150)


class Blanks(UncolumnsCase):
    def test_blanks(self):
        self.only(text(SET, "=a b|c d"), text("=1", ">a b     |c d"), *[text("=1", line) for line in (
            ">a b    |c d", ">a b      |c d", ">a b|c d", "> a b    |c d", ">a  b    |c d", ">a b     | c d",
            ">a b     |c d ", ">a b     |c d     ", ">a b     |c  d", "> a b     |c d", " >a b     |c d", " a b     |c d",
            "a b     |c d", ">>a b     |c d", ">a b     ||c d", ">a b     |c d|", ">a b     c d", ">a b     |c d\r",
            ">a\tb     |c d", ">a b    \u00a0 |c d", ">ab      | c d")])

    def test_empty_cells(self):
        self.only(text("^8 6 3", "=|a|"), text("=1", ">        |a       |"), *[text("=1", line) for line in (
            ">       |a       |", ">         |a       |", ">|a       |", ">        |a|", ">        |a       |        ",
            ">        |a       | ", ">        |a       ", ">        |a        ", ">        |a       ||", "", ">", " ", ">|", ">||",
            "        |a       |")])

    def test_words_that_stick_out(self):
        long = "x" * 9
        self.only(text(SET, f"={long}|b"), text("=1", f">{long}|b"), text("=1", f">{long} |b"), text("=1", f"> {long}|b"))
        self.only(text(SET, f"=b|{long}"), text("=1", f">b       |{long}"), text("=1", f">b       |{long} "))
        # Eight letters fill their cell just so.
        self.only(text(SET, "=xxxxxxxx|b"), text("=1", ">xxxxxxxx|b"), text("=1", ">xxxxxxxx |b"))

    def test_bytes_are_no_cells(self):
        self.only(text(SET, "=\u00e9\u00e9|b"), text("=1", ">\u00e9\u00e9      |b"), text("=1", ">\u00e9\u00e9    |b"))


class Words(UncolumnsCase):
    def test_long_words(self):
        self.gives(text(SET, "=1", ">" + "a" * 64 + "|"), text(SET, "=" + "a" * 64 + "|"))
        self.refuses(text(SET, "=1", ">" + "a" * 65 + "|"), text(SET, "=1", ">        |" + "\u00e9" * 65),
                     text(SET, "=1", ">" + "a" * 128 + "|"))

    def test_no_letters(self):
        for letter in MARKS.replace("|", "") + "\x00\x01\t\x7f\x80\x9f\ufffe\uffff\U0010ffff":
            self.refuses(text(SET, "=1", f">a{letter}      |b"), text(SET, "=1", f">a       |{letter}"),
                         text(SET, "=1", f">{letter}       |b"), text(SET, "=1", f">a       |b {letter}"))

    def test_broken_characters(self):
        for bad in (b"\x80", b"\xc3", b"\xc0\xaf", b"\xe4\xb8", b"\xed\xa0\x80", b"\xf4\x90\x80\x80", b"\xff"):
            self.refuses(text(SET, "=1").encode() + b">a" + bad + b"      |b\n",
                         text(SET, "=1").encode() + b">a       |b" + bad + b"\n")

    def test_how_many_cells(self):
        for count in (2, 3, 4):
            for cells in range(1, 6):
                shown = text(f"^8 6 {count}", "=1", ">" + "|".join(["a       "] * (cells - 1) + ["a"]))
                self.assertEqual(uncolumns(data(shown)) == [-6], cells != count)


class OtherBytes(UncolumnsCase):
    """A byte changed, left out or put in: refused, wherever that is no other table's print."""

    TABLES = (text("^8 6 3", "=a b|\u00e9 c|", "=||", "=aaaa bbbb cc|d|" + "x" * 9),
              text("^8 6 2", "=|", "=" + " ".join(["aaaaa"] * 7) + "|bbbbb ccccc", "=a|b"),
              text("^9 6 2", "=aaaaaaa b ccccccc d|\u4e2d", *["=|"] * 5))

    def check(self, shown):
        expected = tables.unprinted(shown)
        answer = uncolumns(list(shown))
        self.assertEqual(answer, [-6] if expected is None else [len(expected)] + list(expected), shown)
        return expected is None

    def test_one_byte(self):
        for table in self.TABLES:
            shown = bytes(columns(data(table))[1:])
            refused = 0
            for at in range(len(shown) + 1):
                refused += self.check(shown[:at] + shown[at + 1:])
                for byte in SIGNS:
                    refused += self.check(shown[:at] + bytes([byte]) + shown[at:])
                    refused += self.check(shown[:at] + bytes([byte]) + shown[at + 1:])
            self.assertGreater(refused, len(shown) * len(SIGNS))

    def test_every_byte_in_some_places(self):
        shown = bytes(columns(data(self.TABLES[0]))[1:])
        for at in range(0, len(shown), 5):
            for byte in range(256):
                self.check(shown[:at] + bytes([byte]) + shown[at + 1:])

    def test_every_beginning(self):
        for table in self.TABLES:
            shown = bytes(columns(data(table))[1:])
            for size in range(len(shown)):
                self.check(shown[:size])
                if shown[:size][-1:] != b"\n":
                    self.assertEqual(uncolumns(list(shown[:size])), [-6])

    def test_last_line_without_its_end(self):
        self.refuses(SET, text(SET) + "=1", text(SET, "=1") + ">a       |b", text(SET, "=1") + ">        |",
                     text(SET, "=1", ">a       |b") + " ", text(SET, "=1", ">a       |b") + ">")

    def test_bytes_behind(self):
        for table in self.TABLES:
            shown = bytes(columns(data(table))[1:])
            for byte in range(256):
                self.assertEqual(uncolumns(list(shown) + [byte]), [-6])
            self.refuses(shown + b"\n", shown + b" \n", shown + b">\n", shown + b"^8 6 2\n")

    def test_lines_left_out_put_twice_and_turned(self):
        source = random.Random(114)
        for k in range(300):
            rows = tables.printed(tables.random_table(source)).splitlines(keepends=True)
            at = source.randrange(len(rows))
            to = source.randrange(len(rows))
            self.check(b"".join(rows[:at] + rows[at + 1:]))
            self.check(b"".join(rows[:at] + rows[at:at + 1] + rows[at:]))
            rows[at], rows[to] = rows[to], rows[at]
            self.check(b"".join(rows))

    def test_spoilt_by_lot(self):
        source = random.Random(115)
        refused = 0
        for k in range(1500):
            refused += self.check(tables.spoiled(source, tables.printed(tables.random_table(source))))
        self.assertTrue(300 < refused < 1450, refused)

    def test_bytes_by_lot(self):
        source = random.Random(116)
        for k in range(500):
            self.check(b"^8 6 2\n=1\n>a       |" + bytes(source.choice(SIGNS) for at in range(source.randrange(9))))
            self.check(bytes(source.randrange(256) for at in range(source.randrange(30))))


class Bounds(UncolumnsCase):
    def test_too_long(self):
        self.assertEqual(uncolumns([94] * 16777217), [-2])
        self.assertEqual(uncolumns([94] * 16777216), [-6])

    def test_text_too_long(self):
        # It is the text's size that counts, not the printed columns'.
        table = text(SET, "=a b|c")
        shown = columns(data(table))[1:]
        self.assertGreater(len(shown), len(table))
        for most, expected in ((len(table), [len(table)] + data(table)), (len(table) - 1, [-6])):
            with unittest.mock.patch("vellumpages.setting.MOST_TEXT_BYTES", most):
                self.assertEqual(uncolumns(shown), expected)

    def test_longest_text(self):
        words = " ".join(["a" * 63] * 16383)
        table = data(text(SET, f"={words}|" + "a" * 55))
        self.assertEqual(len(table), 1048576)
        shown = columns(table)[1:]
        self.assertEqual(uncolumns(shown), [1048576] + table)
        # One letter more, and the table's text is too long.
        at = shown.index(124) + 1
        self.assertEqual(uncolumns(shown[:at] + [97] + shown[at:]), [-6])

    def test_most_rows(self):
        for count, refused in ((8192, False), (8193, True)):
            pages = []
            for k in range(count):
                pages += [f"={k // 240 + 1}"] * (k % 240 == 0) + [">        |"]
            self.assertEqual(uncolumns(data(text("^8 240 2", *pages))) == [-6], refused)

    def test_most_words(self):
        for count, refused in ((65536, False), (65537, True)):
            lines = ["a a a a |a a a a"] * (count // 8) + ["a       |"] * (count % 8)
            shown = [SET]
            for k, line in enumerate(lines):
                shown += [f"={k // 6 + 1}"] * (k % 6 == 0) + [(" " if k else ">") + line]
            self.assertEqual(uncolumns(data(text(*shown))) == [-6], refused)


class Calls(UncolumnsCase):
    def test_nothing_is_kept_or_changed(self):
        first = data(text("^9 6 3", "=1", ">a b      |c        |", ">         |d        |e f"))
        other = data(text("^8 7 2", "=1", ">aaaaa   |c", " bbbbb   |"))
        copies = [list(first), list(other)]
        answers = [uncolumns(first), uncolumns(other), uncolumns([]), uncolumns(first[:-1])]
        self.assertEqual([answer[0] for answer in answers], [23, 22, -6, -6])
        for k in range(3):
            self.assertEqual([uncolumns(first), uncolumns(other), uncolumns([]), uncolumns(first[:-1])], answers)
            uncolumns(first).append(k)
            self.assertEqual([first, other], copies)

    def test_as_much_as_can_be_handed_in(self):
        for table in (text("^120 240 4", *["=|||"] * 22), text(SET, *["=|"] * 690), text("^120 240 2", "=|" + "a " * 1900 + "a"),
                      text("^8 6 2", "=" + "a " * 2000 + "a|"), text("^8 6 4", "=|||" + "a " * 800 + "a")):
            shown = columns(data(table))[1:]
            self.assertLessEqual(len(shown), 8191)
            begun = time.monotonic()
            self.assertEqual(bytes(uncolumns(shown)[1:]).decode(), table)
            self.assertLess(time.monotonic() - begun, 60)
        for shown in ("^8 6 2\n=1\n>" + " " * 8179, "^8 6 2\n=1\n>" + "|" * 8179, "^8 6 2\n=1\n>" + "a" * 8179,
                      "^8 6 2\n" + "=1\n" * 2700, "^8 6 2\n=1\n" + ">\n" * 4000, "^8 6 2\n=1\n" + ">|\n" * 2700,
                      "^8 6 2\n=1\n>a       |" + "a " * 4080 + "\n"):
            self.refuses(shown)


if __name__ == "__main__":
    unittest.main()
