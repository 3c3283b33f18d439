import random
import time
import unittest
import unittest.mock

from tests import lists, tables
from tests.oracle import MARKS, text
from vellumpages.setting import concord

SET = "^1 1"


def data(shown):
    return list(shown if isinstance(shown, bytes) else shown.encode())


class ConcordCase(unittest.TestCase):
    maxDiff = None

    def shows(self, listed, *lines):
        """The list, whose head is its first line, prints to that head and these lines."""
        handed = data(listed)
        answer = concord(handed)
        self.assertEqual(bytes(answer[1:]).decode(), text(listed.partition("\n")[0], *lines))
        self.assertEqual(answer[0], len(answer) - 1)
        self.assertTrue(type(answer) is list and all(type(number) is int for number in answer))
        self.assertEqual(concord(handed), answer)
        self.assertEqual(handed, data(listed))

    def refuses(self, *texts):
        for one in texts:
            handed = data(one)
            self.assertEqual(concord(handed), [-6], one)
            self.assertEqual(concord(handed), [-6], one)
            self.assertEqual(handed, data(one))


class Counted(ConcordCase):
    def test_no_words(self):
        for before in range(9):
            for behind in range(9):
                self.shows(text(f"^{before} {behind}"))

    def test_none_is_counted(self):
        self.shows(text(SET, ">a"))
        self.shows(text("^8 8", ">a", ">b", ">a"))

    def test_some_are_counted(self):
        self.shows(text(SET, ">a", ">b x", ">c"), "=x 1", " 1 a [b] c")
        self.shows(text("^2 2", ">the", ">cats cat", ">saw see", ">the", ">cat cat"), "=cat 2", " 1 the [cats] saw the",
                   " 4 saw the [cat]", "=see 1", " 2 the cats [saw] the cat")

    def test_all_are_counted(self):
        self.shows(text(SET, ">a x", ">b y", ">c x"), "=x 2", " 0 [a] b", " 2 b [c]", "=y 1", " 1 a [b] c")

    def test_several_as_the_same(self):
        self.shows(text("^0 0", ">a x", ">a x", ">b x", ">a y"), "=x 3", " 0 [a]", " 1 [a]", " 2 [b]", "=y 1", " 3 [a]")

    def test_as_itself(self):
        self.shows(text(SET, ">a a", ">b b", ">a a"), "=a 2", " 0 [a] b", " 2 b [a]", "=b 1", " 1 a [b] a")

    def test_one_word(self):
        for before in range(9):
            for behind in range(9):
                self.shows(text(f"^{before} {behind}", ">a x"), "=x 1", " 0 [a]")

    def test_like_another_word(self):
        # What is counted says nothing of words that aren't, were they alike.
        self.shows(text(SET, ">a", ">a b", ">b", ">a"), "=b 1", " 1 a [a] b")

    def test_digits_are_letters(self):
        self.shows(text(SET, ">1 2", ">2", ">10 2"), "=2 2", " 0 [1] 2", " 2 2 [10]")

    def test_words_of_most_letters(self):
        for letter in ("a", "\u00e9", "\u4e2d", "\U0001f600"):
            self.shows(text(SET, f">{letter * 64} {letter * 64}", f">{letter}"), f"={letter * 64} 1",
                       f" 0 [{letter * 64}] {letter}")

    def test_how_many_of_several_digits(self):
        self.shows(text("^0 0", *[">a x"] * 120), "=x 120", *[f" {k} [a]" for k in range(120)])


class Order(ConcordCase):
    def order(self, *kinds):
        """These come in this order, wherever their words stand."""
        for turned in (list(kinds), list(reversed(kinds)), sorted(kinds, key=len)):
            shown = []
            for kind in kinds:
                shown += [f"={kind} 1", f" {turned.index(kind)} [w]"]
            self.shows(text("^0 0", *[f">w {kind}" for kind in turned]), *shown)

    def test_letters(self):
        self.order("a", "b", "c")
        self.order("!", "$", "-", "0", "9", ":", "A", "Z", "_", "`", "a", "z")
        self.order("10", "2", "21", "3")

    def test_beginnings(self):
        self.order("a", "aa", "aaa", "aab", "ab", "abc", "b", "ba")
        self.order("a", "a!", "a0", "aA", "aa", "a\u00e9")
        self.order("a" * 63, "a" * 64)
        self.order("x", "x" + "a" * 63, "x" + "a" * 62 + "b")

    def test_by_their_numbers(self):
        self.order("z", "\u00a0", "\u00e9", "\u07ff", "\u0800", "\u4e2d", "\ud7ff", "\ue000", "\ufffd", "\U00010000",
                   "\U0001f600", "\U0010fffd")
        self.order("\u00e9", "\u00e9a", "\u00ea", "\uff5a", "\U00010000", "\U00010000\u00e9", "\U00010000\U00010000")
        # Neither capitals nor what letters look like counts.
        self.order("B", "E", "a", "b", "\u00c9", "\u00e9", "\u0130", "\u0131")

    def test_long_beginnings_of_long_characters(self):
        self.order("\U0010fffd" * 63 + "a", "\U0010fffd" * 63 + "\u00e9", "\U0010fffd" * 64)

    def test_words_in_their_order(self):
        # By their numbers, not by their letters.
        self.shows(text("^0 0", ">c x", ">b y", ">a x", ">d x", ">a y"), "=x 3", " 0 [c]", " 2 [a]", " 3 [d]", "=y 2",
                   " 1 [b]", " 4 [a]")
        self.shows(text("^0 0", *[">b a", ">a b"] * 6), "=a 6", *[f" {k} [b]" for k in range(0, 12, 2)], "=b 6",
                   *[f" {k} [a]" for k in range(1, 12, 2)])


class Near(ConcordCase):
    def test_every_before_and_behind(self):
        words = [f"w{k}" for k in range(20)]
        for before in range(9):
            for behind in range(9):
                for k in range(20):
                    lines = [">" + word for word in words]
                    lines[k] += " x"
                    near = words[max(0, k - before):k] + [f"[w{k}]"] + words[k + 1:k + 1 + behind]
                    self.shows(text(f"^{before} {behind}", *lines), "=x 1", f" {k} " + " ".join(near))

    def test_near_the_beginning_and_the_end(self):
        self.shows(text("^3 2", ">a x", ">b x", ">c x", ">d x", ">e x"), "=x 5", " 0 [a] b c", " 1 a [b] c d",
                   " 2 a b [c] d e", " 3 a b c [d] e", " 4 b c d [e]")
        self.shows(text("^8 8", ">a x", ">b y"), "=x 1", " 0 [a] b", "=y 1", " 1 a [b]")

    def test_words_that_are_not_counted(self):
        self.shows(text("^2 1", ">a", ">b", ">c", ">d x", ">e", ">f x"), "=x 2", " 3 b c [d] e", " 5 d e [f]")

    def test_words_stand_there_not_what_they_are_counted_as(self):
        self.shows(text("^8 8", ">a k", ">b l", ">c m"), "=k 1", " 0 [a] b c", "=l 1", " 1 a [b] c", "=m 1", " 2 a b [c]")

    def test_like_words_nearby(self):
        self.shows(text("^2 2", ">a x", ">a", ">a x"), "=x 2", " 0 [a] a a", " 2 a a [a]")

    def test_long_numbers(self):
        self.shows(text("^1 0", *[">a"] * 1000, ">b x"), "=x 1", " 1000 a [b]")


class Refused(ConcordCase):
    def test_no_bytes(self):
        self.assertEqual(concord([]), [-6])

    def test_head(self):
        for head in ("^9 0", "^0 9", "^10 0", "^0 10", "^00 0", "^0 00", "^01 1", "^1 01", "^", "^1", "^1 ", "^1 1 ",
                     "^ 1 1", "^1  1", "^1 1 1", "1 1", "", " ^1 1", "^^1 1", "^1 1\r", "^1\t1", "^-1 1", "^+1 1", "^1,1",
                     "^a 1", "^1 a", "=1 1", ">1 1", "^" + "9" * 5000 + " 1", "^\u0661 1", "^8 6 2"):
            self.refuses(text(head), text(head, ">a"), text(head, ">a b"))

    def test_every_head(self):
        for before in range(100):
            for behind in range(12):
                answer = concord(data(text(f"^{before} {behind}")))
                self.assertEqual(answer == [-6], before > 8 or behind > 8)

    def test_how_many_things(self):
        for row in (">", ">a b c", ">a b c d", ">a a a", "> ", ">  "):
            self.refuses(text(SET, row), text(SET, ">a", row), text(SET, row, ">a"))

    def test_blanks(self):
        for row in (">a  b", "> a", "> a b", ">a ", ">a b ", " >a", ">a\tb", ">a\t", ">a\r", ">a b\r", ">a \u00a0 b", "> a "):
            self.refuses(text(SET, row), text(SET, ">a", row), text(SET, row, ">a"))

    def test_rows(self):
        for row in ("", "a", "a b", "=a", "=a b", "=a 1", " 0 [a]", ">>a", "^1 1", "{0 a", "[a", "<a", "|"):
            self.refuses(text(SET, row), text(SET, ">a", row), text(SET, row, ">a"))

    def test_marks(self):
        for mark in MARKS:
            self.refuses(text(SET, f">{mark}"), text(SET, f">a{mark}"), text(SET, f">a{mark} b"), text(SET, f">a {mark}"),
                         text(SET, f">a b{mark}"), text(SET, f">a {mark}b"), text(SET, f">{mark}a b"))

    def test_no_letters(self):
        for number in (*range(10), *range(11, 32), *range(127, 160), 0xFFFE, 0xFFFF, 0x1FFFE, 0x1FFFF, 0x10FFFE, 0x10FFFF):
            letter = chr(number)
            self.refuses(text(SET, f">{letter}"), text(SET, f">a{letter}"), text(SET, f">a {letter}"), text(SET, f">a b{letter}"))

    def test_long_words(self):
        for letter in ("a", "\u00e9", "\u4e2d", "\U0001f600"):
            word = letter * 65
            self.refuses(text(SET, f">{word}"), text(SET, f">{word} a"), text(SET, f">a {word}"), text(SET, ">a", f">{word}"))

    def test_broken_characters(self):
        for bad in (b"\x80", b"\xbf", b"\xc3", b"\xc0\xaf", b"\xc1\xbf", b"\xe4\xb8", b"\xe0\x80\xaf", b"\xe0\x9f\xbf",
                    b"\xed\xa0\x80", b"\xed\xbf\xbf", b"\xf0\x9f\x98", b"\xf0\x80\x80\xaf", b"\xf0\x8f\xbf\xbf",
                    b"\xf4\x90\x80\x80", b"\xf5\x80\x80\x80", b"\xff", b"\xfe", b"\xc3\x28", b"\xe4\xb8a"):
            for before, behind in ((b">", b"\n"), (b">a", b"\n"), (b">", b" b\n"), (b">a ", b"\n"), (b">a b", b"\n")):
                self.refuses(text(SET).encode() + before + bad + behind)

    def test_last_line_without_its_end(self):
        self.refuses(SET, text(SET) + ">a", text(SET) + ">a b", text(SET, ">a") + ">", text(SET, ">a b") + ">c ",
                     text(SET, ">a b")[:-1])

    def test_behind_the_end(self):
        for more in ("\n", " ", "a", "^1 1\n", "=a 1\n", "\x00", ">", ">\n"):
            self.refuses(text(SET) + more, text(SET, ">a b") + more)

    def test_every_beginning(self):
        whole = text("^3 4", ">ab \u00e9", ">\u4e2d", ">\U0001f600 \U0001f600x", ">c").encode()
        ends = [k + 1 for k, byte in enumerate(whole) if byte == 10]
        for size in range(len(whole)):
            self.assertEqual(concord(list(whole[:size])) == [-6], size not in ends, size)

    def test_most_words(self):
        for count, refused in ((8192, False), (8193, True)):
            self.assertEqual(concord(data(text(SET, *[">a"] * count))) == [-6], refused)
            self.assertEqual(concord(data(text(SET, *[">a b"] * count))) == [-6], refused)

    def test_too_long(self):
        self.assertEqual(concord([94] * 1048577), [-2])
        self.assertEqual(concord([94] * 1048576), [-6])
        rows = [">" + "\u4e2d" * 42] * 8191
        listed = data(text("^0 0", *rows, ">" + "a" * 61 + " " + "b" * 59))
        self.assertEqual(len(listed), 1048576)
        self.assertEqual(concord(listed), [138] + data(text("^0 0", "=" + "b" * 59 + " 1", " 8191 [" + "a" * 61 + "]")))
        self.assertEqual(concord(data(text("^0 0", *rows, ">" + "a" * 61 + " " + "b" * 60))), [-2])

    def test_printed_too_long(self):
        # Each word stands seventeen times but near the ends.
        for count, refused in ((7600, False), (8000, True)):
            listed = data(text("^8 8", *[">" + "\u4e2d" * 42 + " x"] * count))
            self.assertLessEqual(len(listed), 1048576)
            shown = lists.printed(lists.parse(listed))
            self.assertEqual(len(shown) > 16777216, refused)
            self.assertEqual(concord(listed), [-2] if refused else [len(shown)] + list(shown))

    def test_printed_too_long_by_one(self):
        small = text(SET, ">a", ">b x")
        shown = len(text(SET, "=x 1", " 1 a [b]"))
        for most, expected in ((shown, shown), (shown - 1, -2)):
            with unittest.mock.patch("vellumpages.setting.MOST_PRINTED_BYTES", most):
                self.assertEqual(concord(data(small))[0], expected)
                self.assertEqual(len(concord(data(small))), 1 + max(0, expected))
                self.assertEqual(concord(data(small) + [0]), [-6])


class AgainstTheWords(ConcordCase):
    def check(self, handed):
        listed = lists.parse(handed)
        if listed is None:
            self.assertEqual(concord(list(handed)), [-6], handed)
            return 0
        expected = lists.printed(listed)
        self.assertEqual(concord(list(handed)), [len(expected)] + list(expected), handed.decode())
        return 1

    def test_lists(self):
        source = random.Random(120)
        for k in range(1500):
            self.assertEqual(self.check(lists.random_list(source).text()), 1)

    def test_long_lists(self):
        source = random.Random(121)
        for k in range(20):
            self.check(lists.random_list(source, 400).text())

    def test_spoiled_lists(self):
        source = random.Random(122)
        held = 0
        for k in range(3000):
            held += self.check(tables.spoiled(source, lists.random_list(source).text()))
        self.assertGreater(held, 300)

    def test_every_byte(self):
        whole = text(SET, ">a \u00e9", ">b", ">c \u00e9").encode()
        for at in range(len(whole) + 1):
            self.check(whole[:at] + whole[at + 1:])
            for byte in range(256):
                self.check(whole[:at] + bytes([byte]) + whole[at:])
                self.check(whole[:at] + bytes([byte]) + whole[at + 1:])

    def test_each_counted_word_stands_once(self):
        source = random.Random(123)
        for k in range(300):
            listed = lists.random_list(source, 60)
            shown = bytes(concord(list(listed.text()))[1:])
            expected = sorted((counted, at, word) for at, (word, counted) in enumerate(listed.words) if counted is not None)
            self.assertEqual(lists.places(shown), expected)


class Calls(ConcordCase):
    def test_nothing_is_kept_or_changed(self):
        first = data(text("^2 1", ">a x", ">b", ">c x"))
        other = data(text("^0 0", ">a y"))
        copies = [list(first), list(other)]
        answers = [concord(first), concord(other), concord([]), concord(first[:-1])]
        self.assertEqual([answer[0] for answer in answers], [30, 17, -6, -6])
        for k in range(3):
            self.assertEqual([concord(first), concord(other), concord([]), concord(first[:-1])], answers)
            concord(first).append(k)
            self.assertEqual([first, other], copies)

    def test_as_much_as_can_be_handed_in(self):
        for listed in (text("^8 8", *[">a b"] * 1630), text("^8 8", *[">a"] * 2720), text("^8 8", *[">" + "a" * 64 + " b"] * 120),
                       text("^8 8", *[f">a {k}" for k in range(1000, 2000)]), text("^0 0", *[">a " + "b" * 64] * 120)):
            handed = data(listed)
            self.assertLessEqual(len(handed), 8191)
            begun = time.monotonic()
            self.assertEqual(bytes(concord(handed)[1:]), lists.printed(lists.parse(handed)))
            self.assertLess(time.monotonic() - begun, 60)


if __name__ == "__main__":
    unittest.main()
