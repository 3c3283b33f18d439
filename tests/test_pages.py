import random
import time
import unittest
import unittest.mock

from tests import oracle
from tests.oracle import WIDE, entry, text
from vellumpages.setting import judge, pages


class PagesCase(unittest.TestCase):
    maxDiff = None

    def prints(self, work, *lines):
        handed = list(work.encode())
        answer = pages(handed)
        self.assertEqual(handed, list(work.encode()))
        self.assertEqual(bytes(answer[1:]).decode(), text(*lines))
        self.assertEqual(answer[0], len(text(*lines).encode()))
        self.assertTrue(all(type(number) is int for number in answer) and type(answer) is list)

    def body(self, work):
        """What is printed behind the settings and widths."""
        return [line for line in bytes(pages(list(work.encode()))[1:]).decode().split("\n")[:-1]
                if line[0] not in "^("]

    def counts(self, work):
        """How many lines and how many foot lines stand on each page."""
        printed = oracle.Printed(bytes(pages(list(work.encode()))[1:]))
        return [(len(lines), len(foot)) for lines, foot in printed.pages]


class NoWords(PagesCase):
    def test_no_page(self):
        self.prints("^20 6 1 1 0 0\n", "^20 6 1 1 0 0")

    def test_widths_alone(self):
        self.prints(text("^240 240 16 100 1 10000", "(33 33 0", "(34 1114111 2"),
                    "^240 240 16 100 1 10000", "(33 33 0", "(34 1114111 2")


class Refused(PagesCase):
    def test_minus_6_alone(self):
        whole = text("^20 6 1 1 0 0", "(97 97 2", ">a b", "{0 x", "[1 1 t")
        for size in range(len(whole)):
            if whole[:size][-1:] != "\n":
                self.assertEqual(pages(list(whole[:size].encode())), [-6])
        for bad in ("", "x", whole + "x", whole + "\n", text("^19 6 1 1 0 0"), text("^20 6 1 1 0 0", "[0 0"),
                    text("^20 6 1 1 0 0", ">a", "[0 2")):
            self.assertEqual(pages(list(bad.encode())), [-6], bad)

    def test_too_long(self):
        self.assertEqual(pages([94] * 1048577), [-2])
        self.assertEqual(pages([94] * 1048576), [-6])

    def test_printed_too_long(self):
        # No work comes to that, so what is printed is made longer here.
        work = list(text("^20 6 1 1 0 0", ">a").encode())
        for size, first in ((16777216, 16777216), (16777217, -2)):
            with unittest.mock.patch("vellumpages.setting.printed_bytes", return_value=[97] * size):
                answer = pages(work)
            self.assertEqual(answer[0], first)
            self.assertEqual(len(answer), max(first, 0) + 1)

    def test_as_judge_says(self):
        source = random.Random(1)
        for k in range(300):
            spoilt = list(oracle.spoiled(source, oracle.random_work(source).text()))
            self.assertEqual(pages(spoilt) == [-6], judge(spoilt)[0] == -6)


class Lines(PagesCase):
    def test_one_paragraph(self):
        self.prints(text("^20 6 2 1 0 0", ">aaa bbb"), "^20 6 2 1 0 0", "=1", "   1   aaa bbb")

    def test_several_paragraphs(self):
        self.prints(text("^20 6 1 1 0 0", ">a", ">b c", ">d"),
                    "^20 6 1 1 0 0", "=1", "   1  a", "   2  b c", "   3  d")

    def test_first_line_has_less_room(self):
        # 15 cells in the first line, 20 in the others.
        self.assertEqual(self.body(text("^20 6 5 1 0 0", ">aaaaaaa bbbbbbb c")),
                         ["=1", "   1      aaaaaaa bbbbbbb", "   2 c"])
        self.assertEqual(self.body(text("^20 6 5 1 0 0", ">aaaaaaa bbbbbbbb c")),
                         ["=1", "   1      aaaaaaa", "   2 bbbbbbbb c"])
        self.assertEqual(self.body(text("^20 6 5 1 0 0", ">" + "a" * 15 + " " + "b" * 18 + " c d")),
                         ["=1", "   1      " + "a" * 15, "   2 " + "b" * 18 + " c", "   3 d"])

    def test_least_cost_is_not_the_fullest_first_line(self):
        # Full lines would leave 0, 9: 81; the others leave 4, 5: 41.
        work = text("^20 6 1 1 0 0", ">" + " ".join(["a" * 15, "bbb", "c" * 11, "d" * 20, "e"]))
        self.assertEqual(self.body(work), ["=1", "   1  " + "a" * 15, "   2 bbb " + "c" * 11, "   3 " + "d" * 20,
                                           "   4 e"])

    def test_the_cost_is_a_square(self):
        # Neither the first power nor the third or fourth parts these words so.
        for takes, counts in (((5, 4, 6, 8, 4, 9, 4, 6, 5, 8), (2, 2, 2, 3, 1)),
                              ((8, 3, 6, 5, 5, 3, 1, 6, 5, 9), (2, 3, 4, 1)),
                              ((1, 9, 6, 9, 1, 1, 9, 4, 9, 2), (2, 3, 3, 2))):
            work = text("^20 6 1 1 0 0", ">" + " ".join("a" * number for number in takes))
            lines = [line for line in self.body(work) if not line.startswith("=")]
            self.assertEqual(tuple(len(line.split()) - 1 for line in lines), counts)

    def test_equal_cost_takes_more_words_first(self):
        # 0 and 2 left, or 2 and 0 left.
        work = text("^20 6 1 1 0 0", ">" + " ".join(["a" * 17, "x", "b" * 18, "c" * 5]))
        self.assertEqual(self.body(work), ["=1", "   1  " + "a" * 17 + " x", "   2 " + "b" * 18, "   3 ccccc"])

    def test_equal_cost_in_a_later_line(self):
        work = text("^20 6 1 1 0 0", ">" + " ".join(["f" * 19, "a" * 18, "x", "b" * 18, "c" * 5]))
        self.assertEqual(self.body(work), ["=1", "   1  " + "f" * 19, "   2 " + "a" * 18 + " x", "   3 " + "b" * 18,
                                           "   4 ccccc"])

    def test_last_line_costs_nothing(self):
        work = text("^20 6 1 1 0 0", ">" + " ".join(["a" * 10, "b" * 8, "c"]))
        self.assertEqual(self.body(work), ["=1", "   1  " + "a" * 10 + " " + "b" * 8, "   2 c"])

    def test_word_wider_than_its_room(self):
        self.assertEqual(self.body(text("^20 6 5 1 0 0", ">" + "a" * 16 + " b")),
                         ["=1", "   1      " + "a" * 16, "   2 b"])
        self.assertEqual(self.body(text("^20 6 1 1 0 0", ">x " + "a" * 64 + " y z")),
                         ["=1", "   1  x", "   2 " + "a" * 64, "   3 y z"])
        self.assertEqual(self.body(text("^20 6 1 1 0 0", ">" + "a" * 21)), ["=1", "   1  " + "a" * 21])

    def test_wide_word_between_full_lines(self):
        work = text("^20 6 1 1 0 0", ">" + " ".join(["b" * 9, "c" * 9, "a" * 30, "d" * 20, "e"]))
        self.assertEqual(self.body(work), ["=1", "   1  " + "b" * 9 + " " + "c" * 9, "   2 " + "a" * 30,
                                           "   3 " + "d" * 20, "   4 e"])

    def test_cells_of_letters(self):
        # a takes nothing, b takes two, c takes one: 18 + 1 + 0 are 19, the first line's room.
        head = ["^20 6 1 1 0 0", "(97 97 0", "(98 98 2"]
        self.assertEqual(self.body(text(*head, ">" + "b" * 9 + " " + "a" * 30 + " c")),
                         ["=1", "   1  " + "b" * 9 + " " + "a" * 30, "   2 c"])
        self.assertEqual(self.body(text(*head, ">" + "b" * 9 + "c " + "a" * 30 + " c")),
                         ["=1", "   1  " + "b" * 9 + "c", "   2 " + "a" * 30 + " c"])
        self.assertEqual(self.body(text(*head, ">" + "a " * 19 + "a")), ["=1", "   1  " + "a " * 19 + "a"])
        self.assertEqual(self.body(text(*head, ">" + "a " * 20 + "a")), ["=1", "   1  " + "a " * 19 + "a", "   2 a"])

    def test_ends_of_rows(self):
        head = ["^20 6 1 1 0 0", "(98 99 2", "(100 100 0", "(228 20013 2"]
        for char, takes in (("a", 1), ("b", 2), ("c", 2), ("d", 0), ("e", 1), ("\u00e3", 1), ("\u00e4", 2),
                            ("\u4e2d", 2), ("\u4e2e", 1), ("\U0001f600", 1)):
            fill = "a" * (17 - takes)
            self.assertEqual(self.body(text(*head, f">{fill}{char} x y")), ["=1", f"   1  {fill}{char} x", "   2 y"])
            self.assertEqual(len(self.body(text(*head, f">{fill}a{char} x"))), 3, char)

    def test_long_characters_are_printed_as_they_are(self):
        self.prints(text("^20 6 1 1 0 0", ">\u00e9\u4e2d\U0001f600 \U0010fffd", "{1 \u00fc", "[0 1 \u03b1"),
                    "^20 6 1 1 0 0", "=1", "   1  \u00e9\u4e2d\U0001f600 |\U0010fffd {\u00fc}", "~",
                    " #1 [\u00e9\u4e2d\U0001f600] \u03b1")

    def test_bytes_of_characters(self):
        for number in (0x21, 0x7A, 0xA0, 0xBF, 0xC0, 0x7FF, 0x800, 0xFFF, 0x1000, 0x4E2D, 0xD7FF, 0xE000, 0xFFFD,
                       0x10000, 0x1F600, 0x3FFFD, 0x40000, 0x41041, 0xFFFFD, 0x100000, 0x10FFFD):
            letters = chr(number)
            if oracle.is_letter(letters):
                self.prints(text("^20 6 1 1 0 0", ">" + letters), "^20 6 1 1 0 0", "=1", "   1  " + letters)
        for first in range(0xA0, 0x110000, 997):
            letters = "".join(chr(k) for k in range(first, min(first + 997, 0x110000), 101) if not 0xD800 <= k < 0xE000)
            letters = "".join(letter for letter in letters if oracle.is_letter(letter))
            if letters:
                self.prints(text("^20 6 1 1 0 0", ">" + letters), "^20 6 1 1 0 0", "=1", "   1  " + letters)


class Signs(PagesCase):
    def test_strokes_and_texts(self):
        self.prints(text("^20 6 1 1 0 0", ">a b c", "{0 x", "{2 y^ z", "{2 ^"),
                    "^20 6 1 1 0 0", "=1", "   1  |a b ||c {x|y^ z|^}")

    def test_a_stroke_takes_a_cell(self):
        words = "a" * 10 + " " + "b" * 8 + " c"
        self.assertEqual(self.body(text("^20 6 1 1 0 0", ">" + words)), ["=1", "   1  " + words[:19], "   2 c"])
        self.assertEqual(self.body(text("^20 6 1 1 0 0", ">" + words, "{1 s")),
                         ["=1", "   1  " + "a" * 10, "   2 |" + "b" * 8 + " c {s}"])

    def test_texts_stand_by_their_line(self):
        self.assertEqual(self.body(text("^20 6 1 1 0 0", ">" + "a" * 19 + " b", ">c", "{0 x", "{1 y", "{2 z")),
                         ["=1", "   1  |" + "a" * 19 + " {x}", "   2 |b {y}", "   3  |c {z}"])

    def test_a_stroke_takes_one_cell_whatever_the_rows_say(self):
        head = ["^20 6 1 1 0 0", "(124 124 0", "(125 1114111 2"]
        words = "a" * 10 + " " + "b" * 8
        self.assertEqual(len(self.body(text(*head, ">" + words))), 2)
        self.assertEqual(len(self.body(text(*head, ">" + words, "{0 x"))), 3)


class Numbers(PagesCase):
    def lines(self, anew, every, count=8):
        return self.body(text(f"^20 6 1 {every} {anew} 0", *[">a"] * count))

    def test_through_the_whole(self):
        self.assertEqual(self.lines(0, 1), ["=1"] + [f"   {k}  a" for k in range(1, 7)] + ["=2", "   7  a", "   8  a"])

    def test_anew(self):
        self.assertEqual(self.lines(1, 1), ["=1"] + [f"   {k}  a" for k in range(1, 7)] + ["=2", "   1  a", "   2  a"])

    def test_every(self):
        self.assertEqual(self.lines(0, 3), ["=1", "      a", "      a", "   3  a", "      a", "      a", "   6  a",
                                            "=2", "      a", "      a"])
        self.assertEqual(self.lines(1, 2), ["=1", "      a", "   2  a", "      a", "   4  a", "      a", "   6  a",
                                            "=2", "      a", "   2  a"])
        self.assertEqual(self.lines(0, 100), ["=1"] + ["      a"] * 6 + ["=2"] + ["      a"] * 2)

    def test_long_numbers_end_in_the_fourth_cell(self):
        found = self.lines(0, 1, 1200)
        self.assertIn("   9  a", found)
        self.assertIn("  10  a", found)
        self.assertIn(" 100  a", found)
        self.assertIn("1200  a", found)
        self.assertIn("=200", found)

    def test_a_number_before_its_line_has_four_characters_whatever_its_digits_take(self):
        # Taken by their rows, three digits of two cells could never end in the fourth cell.
        for row in ("(48 57 0", "(48 57 1", "(48 57 2"):
            found = self.body(text("^20 240 1 1 0 0", row, *[">a"] * 120))
            self.assertEqual(found, ["=1"] + ["%4d  a" % k for k in range(1, 121)], row)


class Keys(PagesCase):
    def foot(self, paragraph, *entries):
        body = self.body(text("^240 240 1 1 0 0", *paragraph.split("/"), *entries))
        return " ".join(line.strip(" ") for line in body[body.index("~") + 1:])

    def test_one_word(self):
        self.assertEqual(self.foot(">a b c", "[1 1 t u"), "#1 [b] t u")
        self.assertEqual(self.foot(">a b c", "[1 1"), "#1 [b]")

    def test_no_word(self):
        self.assertEqual(self.foot(">a b c", "[0 0 t"), "#1 [+a] t")

    def test_two_words_and_more(self):
        self.assertEqual(self.foot(">a b c", "[0 2 t", "[0 3 u", "[1 2"), "#1 [a~2~b] t [a~3~c] u [b~2~c]")

    def test_over_paragraphs(self):
        self.assertEqual(self.foot(">a b/>c d", "[1 2 t"), "#1 [b~2~c] t")

    def test_behind_all(self):
        self.assertEqual(self.foot(">a/>b", "[2 0 t"), "#2 [+] t")
        self.assertEqual(self.foot(">a", "[0 0", "[0 1", "[1 0", "[1 0 x"), "#1 [+a] [a] [+] [+] x")

    def test_letters_more_than_once(self):
        self.assertEqual(self.foot(">a b a a", "[0 0 s", "[1 1", "[2 1 t", "[2 2", "[3 1 u", "[4 0"),
                         "#1 [+a^1] s [b] [a^2] t [a^2~2~a] [a^3] u [+]")

    def test_more_than_once_but_in_another_line(self):
        self.assertEqual(self.foot(">a b/>a", "[0 1", "[2 1"), "#1 [a] #2 [a]")

    def test_signs_are_no_letters(self):
        self.assertEqual(self.foot(">a a aa", "{0 x", "[0 1", "[1 1", "[2 1"), "#1 [a^1] [a^2] [aa]")

    def test_entries_come_in_order(self):
        self.assertEqual(self.foot(">a b/>c", "[0 1 z", "[0 1 y", "[1 0 x", "[2 1 w"), "#1 [a] z [a] y [+b] x #2 [c] w")


class Notes(PagesCase):
    def foot(self, *lines):
        body = self.body(text(*lines))
        return body[body.index("~") + 1:]

    def test_several_foot_lines(self):
        self.assertEqual(self.foot("^20 12 1 1 0 0", ">a", "[0 1 " + " ".join(["t" * 10] * 3)),
                         [" #1 [a] " + "t" * 10, " " + "t" * 10, " " + "t" * 10])

    def test_room_is_the_width_in_each(self):
        self.assertEqual(self.foot("^20 12 16 1 0 0", ">a", "[0 1 " + "t" * 13, "[0 1 " + "u" * 16),
                         [" #1 [a] " + "t" * 13, " [a] " + "u" * 16])
        self.assertEqual(self.foot("^20 12 16 1 0 0", ">a", "[0 1 " + "t" * 14), [" #1 [a]", " " + "t" * 14])

    def test_least_cost(self):
        # 0 and 9 left would cost 81, 4 and 5 left cost 41.
        self.assertEqual(self.foot("^20 12 1 1 0 0", ">a", "[0 1 " + " ".join(["t" * 9, "uuu", "v" * 11, "w" * 20])),
                         [" #1 [a] " + "t" * 9, " uuu " + "v" * 11, " " + "w" * 20])

    def test_equal_cost_takes_more_things_first(self):
        self.assertEqual(self.foot("^20 12 1 1 0 0", ">a", "[0 1 " + " ".join(["t" * 11, "u", "v" * 18, "w" * 5])),
                         [" #1 [a] " + "t" * 11 + " u", " " + "v" * 18, " " + "w" * 5])

    def test_thing_wider_than_the_room(self):
        self.assertEqual(self.foot("^20 12 1 1 0 0", ">" + "a" * 30, "[0 1 t " + "u" * 64),
                         [" #1", " [" + "a" * 30 + "]", " t", " " + "u" * 64])

    def test_marks_take_one_cell_letters_by_their_rows(self):
        # #1 takes 3, [a] takes 4.
        head = ["^20 12 1 1 0 0", "(33 1114111 2", ">a"]
        self.assertEqual(self.foot(*head, "[0 1 " + "|" * 11), [" #1 [a] " + "|" * 11])
        self.assertEqual(self.foot(*head, "[0 1 " + "|" * 12), [" #1 [a]", " " + "|" * 12])
        self.assertEqual(self.foot(*head, "[0 1 " + "t" * 5 + "|"), [" #1 [a] " + "t" * 5 + "|"])
        self.assertEqual(self.foot(*head, "[0 1 " + "t" * 6), [" #1 [a]", " " + "t" * 6])

    def test_digits_without_cells(self):
        head = ["^20 12 1 1 0 0", "(48 57 0", ">a"]
        self.assertEqual(self.foot(*head, "[0 1 " + "t" * 14), [" #1 [a] " + "t" * 14])
        self.assertEqual(self.foot(*head, "[0 1 " + "t" * 15), [" #1 [a]", " " + "t" * 15])

    def test_number_anew(self):
        work = text("^20 6 1 1 1 0", *[">a"] * 8, "[0 1", "[7 1")
        self.assertEqual([line for line in self.body(work) if "#" in line], [" #1 [a]", " #4 [a]"])
        work = work.replace("^20 6 1 1 1 0", "^20 6 1 1 0 0")
        self.assertEqual([line for line in self.body(work) if "#" in line], [" #1 [a]", " #8 [a]"])

    def test_number_anew_makes_its_note_longer(self):
        # The note of line 10 has room for its token on one foot line only if its number has one digit.
        rest = [*[">a"] * 10, "[9 1 " + "t" * 13]
        self.assertEqual(self.counts(text("^20 12 1 1 1 0", *rest)), [(9, 0), (1, 1)])
        self.assertEqual(self.counts(text("^20 13 1 1 1 0", *rest)), [(10, 2)])
        self.assertEqual(self.counts(text("^20 12 1 1 0 0", *rest)), [(9, 0), (1, 2)])


class WholePages(PagesCase):
    def test_full_pages(self):
        for count, expected in ((1, [1]), (6, [6]), (7, [6, 1]), (12, [6, 6]), (13, [6, 6, 1])):
            work = text("^20 6 1 1 0 0", *[">a"] * count)
            self.assertEqual(self.counts(work), [(number, 0) for number in expected])

    def test_foot_lines_and_rule_take_lines(self):
        self.assertEqual(self.counts(text("^20 6 1 1 0 0", *[">a"] * 4, "[0 1")), [(4, 1)])
        self.assertEqual(self.counts(text("^20 6 1 1 0 0", *[">a"] * 5, "[0 1")), [(4, 1), (1, 0)])
        self.assertEqual(self.counts(text("^20 6 1 1 0 0", *[">a"] * 5, "[4 1")), [(4, 0), (1, 1)])

    def test_printed(self):
        self.prints(text("^20 6 1 2 0 0", *[">a"] * 5, "[0 1 x", "[4 0 y"),
                    "^20 6 1 2 0 0", "=1", "      a", "   2  a", "      a", "   4  a", "~", " #1 [a] x",
                    "=2", "      a", "~", " #5 [+a] y")

    def two_lines(self):
        return ">" + "a" * 19 + " b"

    def test_loose_first_line(self):
        # Line 6 begins a paragraph of three: leaving it alone costs V, one line less costs 1.
        three = ">" + "a" * 19 + " " + "b" * 20 + " c"
        for loose, expected in ((0, [6, 2]), (1, [6, 2]), (2, [5, 3]), (10000, [5, 3])):
            work = text(f"^20 6 1 1 0 {loose}", *[">a"] * 5, three)
            self.assertEqual(self.counts(work), [(number, 0) for number in expected], loose)

    def test_loose_last_line_on_the_last_page(self):
        # Lines 4 to 6, and 7 are one paragraph: line 7 alone on the last page costs V.
        four = ">" + "a" * 19 + " " + "b" * 20 + " " + "c" * 20 + " d"
        for loose, expected in ((0, [6, 1]), (1, [6, 1]), (2, [5, 2]), (10000, [5, 2])):
            work = text(f"^20 6 1 1 0 {loose}", *[">a"] * 3, four)
            self.assertEqual(self.counts(work), [(number, 0) for number in expected], loose)

    def test_loose_both(self):
        # Lines 6 and 7 are a paragraph: parting them costs 2 V, on the last page too.
        for loose, expected in ((0, [6, 1]), (1, [5, 2]), (10000, [5, 2])):
            work = text(f"^20 6 1 1 0 {loose}", *[">a"] * 5, self.two_lines())
            self.assertEqual(self.counts(work), [(number, 0) for number in expected], loose)

    def test_loose_last_line_on_another_page(self):
        # As above, but with a full page behind it.
        four = ">" + "a" * 19 + " " + "b" * 20 + " " + "c" * 20 + " d"
        for loose, expected in ((0, [6, 6, 1]), (1, [6, 6, 1]), (2, [5, 6, 2]), (10000, [5, 6, 2])):
            work = text(f"^20 6 1 1 0 {loose}", *[">a"] * 3, four, *[">e"] * 6)
            self.assertEqual(self.counts(work), [(number, 0) for number in expected], loose)

    def test_paragraph_of_one_line_is_not_loose(self):
        self.assertEqual(self.counts(text("^20 6 1 1 0 10000", *[">a"] * 13)), [(6, 0), (6, 0), (1, 0)])

    def test_foot_lines_part_pages(self):
        # 5, 2, 1 costs 1 + 1; 4, 3, 1 costs 4 + 0.
        work = text("^20 6 1 1 0 0", *[">a"] * 8, "[5 1", "[6 1", "[7 1")
        self.assertEqual(self.counts(work), [(5, 0), (2, 2), (1, 1)])

    def test_least_cost_and_of_equal_ones_more_lines_first(self):
        # The last line fills a page. 4, 3 before it costs 0 + 9; 3, 4 costs 1 + 4; 2, 5 costs 4 + 1.
        work = text("^20 6 1 1 0 0", *[">a"] * 8, "[0 1", "[7 1 " + " ".join([WIDE] * 3))
        self.assertEqual(self.counts(work), [(3, 1), (4, 0), (1, 4)])

    def test_the_cost_is_a_square(self):
        # 1, 2 costs 25; 2, 1 costs 16 and twice V, which are 10.
        work = text("^20 6 1 1 0 5", ">a", self.two_lines(), entry(2, 3))
        self.assertEqual(self.counts(work), [(1, 0), (2, 3)])
        # 2, 1 costs 1 and twice V, which are 2; 1, 2 costs 4.
        work = text("^20 6 1 1 0 1", ">a", self.two_lines(), entry(0, 2), entry(2, 1))
        self.assertEqual(self.counts(work), [(2, 2), (1, 1)])

    def test_a_page_itself_costs_nothing(self):
        # 1, 2, 1 costs 25; 2, 2 costs 16 and twice V, which are 10.
        work = text("^20 6 1 1 0 5", ">a", self.two_lines(), ">c", entry(2, 3))
        self.assertEqual(self.counts(work), [(1, 0), (2, 3), (1, 0)])
        # 2, 2 costs 1 and twice V, which are 4; 1, 2, 1 costs 4 + 1.
        work = text("^20 6 1 1 0 2", ">a", self.two_lines(), ">c", entry(0, 2), entry(2, 2), entry(3, 1))
        self.assertEqual(self.counts(work), [(2, 2), (2, 3)])


class CutPages(PagesCase):
    def test_cut_and_feet_alone(self):
        self.prints(text("^20 6 1 1 0 0", ">a", entry(0, 11)),
                    "^20 6 1 1 0 0", "=1", "   1  a", "~", " #1 [a]", *[" " + WIDE] * 3,
                    "=2", "~", *[" " + WIDE] * 5, "=3", "~", *[" " + WIDE] * 2)

    def test_a_page_just_full_is_whole(self):
        self.assertEqual(self.counts(text("^20 6 1 1 0 0", ">a", ">b", entry(0, 4))), [(1, 4), (1, 0)])

    def test_one_foot_line_goes_on(self):
        self.assertEqual(self.counts(text("^20 6 1 1 0 0", ">a", ">b", entry(0, 5))), [(1, 4), (1, 1)])
        self.assertEqual(self.counts(text("^20 6 1 1 0 0", ">a", entry(0, 5))), [(1, 4), (0, 1)])

    def test_just_so_many_as_a_foot_alone_holds(self):
        self.assertEqual(self.counts(text("^20 6 1 1 0 0", ">a", entry(0, 9))), [(1, 4), (0, 5)])
        self.assertEqual(self.counts(text("^20 6 1 1 0 0", ">a", entry(0, 10))), [(1, 4), (0, 5), (0, 1)])

    def test_lines_go_on_when_they_may(self):
        # 4 go on: a line without a note stands with them.
        self.assertEqual(self.counts(text("^20 6 1 1 0 0", ">a", ">b", ">c", entry(0, 8))),
                         [(1, 4), (1, 4), (1, 0)])
        # 5 go on: no line does.
        self.assertEqual(self.counts(text("^20 6 1 1 0 0", ">a", ">b", ">c", entry(0, 9))),
                         [(1, 4), (0, 5), (2, 0)])

    def test_cut_with_foot_lines_that_came_over(self):
        # 3 go on and one of b's stands behind them; with 4 that go on b stands with none of them.
        self.assertEqual(self.counts(text("^20 6 1 1 0 0", ">a", ">b", entry(0, 7), entry(1, 2))),
                         [(1, 4), (1, 4), (0, 1)])
        self.assertEqual(self.counts(text("^20 6 1 1 0 0", ">a", ">b", entry(0, 8), entry(1, 2))),
                         [(1, 4), (0, 4), (1, 2)])
        self.assertEqual(self.counts(text("^20 6 1 1 0 0", ">a", ">b", entry(0, 7), entry(1, 1))),
                         [(1, 4), (1, 4)])

    def test_cut_again_and_again(self):
        work = text("^20 6 1 1 0 0", *[">a"] * 5, *[entry(k, 5) for k in range(5)])
        self.assertEqual(self.counts(work), [(1, 4), (1, 4), (1, 4), (1, 4), (0, 4), (1, 4), (0, 1)])

    def test_foot_lines_that_came_over_stand_first(self):
        body = self.body(text("^20 6 1 1 1 0", ">a", ">b", entry(0, 6), "[1 1"))
        self.assertEqual(body, ["=1", "   1  a", "~", " #1 [a]", *[" " + WIDE] * 3,
                                "=2", "   1  b", "~", *[" " + WIDE] * 2, " #1 [b]"])

    def test_where_a_whole_page_may_be_none_is_cut(self):
        # Two lines don't go on one page, but the first alone does.
        self.assertEqual(self.counts(text("^20 6 1 1 0 0", ">a", ">b", entry(1, 5))), [(1, 0), (1, 4), (0, 1)])


class AgainstTheWords(PagesCase):
    def check(self, work):
        expected = oracle.printed(work)
        handed = list(work.text())
        answer = pages(handed)
        self.assertEqual(answer, [len(expected)] + list(expected), work.text().decode())
        self.assertEqual(handed, list(work.text()))
        self.assertEqual(pages(handed), answer)

    def test_works(self):
        source = random.Random(30)
        for k in range(600):
            self.check(oracle.random_work(source))

    def test_works_with_long_notes(self):
        source = random.Random(31)
        for k in range(400):
            self.check(oracle.random_heavy(source))

    def test_works_with_tall_pages(self):
        source = random.Random(32)
        for k in range(40):
            self.check(oracle.random_tall(source))

    def test_works_whose_notes_hang_on_their_pages(self):
        source = random.Random(33)
        for k in range(300):
            self.check(oracle.random_anew(source))


class Promises(PagesCase):
    def check(self, work):
        printed = oracle.Printed(bytes(pages(list(work.text()))[1:]))
        width, height, indent = work.settings[:3]
        self.assertEqual(printed.work.text(), work.text())
        for lines, foot in printed.pages:
            self.assertLessEqual(len(lines) + len(foot) + (len(foot) > 0), height)
        for (lines, foot), (more, next_foot) in zip(printed.pages, printed.pages[1:]):
            if next_foot and not next_foot[0].startswith(" #"):
                self.assertLessEqual(len(lines), 1)
        for line in (line for page in printed.pages for line in page[0]):
            words = line[5:].partition(" {")[0]
            self.assertTrue(work.cells(words) <= width or " " not in words.lstrip(" "), line)
        for line in (line for page in printed.pages for line in page[1]):
            self.assertTrue(work.cells(line[1:]) <= width or " " not in line[1:], line)

    def test_pages_give_the_work_back(self):
        source = random.Random(40)
        for k in range(300):
            self.check(oracle.random_work(source))
            self.check(oracle.random_heavy(source))

    def test_large_works(self):
        source = random.Random(41)
        for k in range(20):
            work = oracle.grown(source, 7000)
            self.assertEqual(judge(list(work.text())), [0])
            self.check(work)


class Sizes(PagesCase):
    def test_as_much_as_can_be_handed_in(self):
        many = 780
        for work in (text("^20 240 1 1 1 0", *[">a"] * 2724),
                     text("^240 240 1 1 1 0", "(97 97 0", ">" + "a " * 4080 + "a"),
                     text("^240 240 1 1 1 0", "(97 97 0", ">b", *["[0 0" + " a" * 1000] * 4),
                     text("^20 6 1 1 1 0", ">" + "a" * 64 + " " + "b" * 64, *["[0 2"] * 1450),
                     text("^20 240 1 1 1 0", "(48 57 2", *[">a"] * many, *[f"[{k} 1" for k in range(many)])):
            self.assertLessEqual(len(work), 8191)
            begun = time.monotonic()
            answer = pages(list(work.encode()))
            self.assertEqual(answer[0], len(answer) - 1)
            self.assertEqual(oracle.Printed(bytes(answer[1:])).work.text().decode(), work)
            self.assertLess(time.monotonic() - begun, 60)


class Calls(PagesCase):
    def test_nothing_is_kept_or_changed(self):
        first = list(text("^20 6 1 1 0 0", "(97 97 2", ">a b", "{0 x", "[1 1 t").encode())
        other = list(text("^30 7 2 2 1 9", ">c d", ">e", "[2 1 u").encode())
        answers = [pages(first), pages(other), pages([])]
        copies = [list(first), list(other)]
        for k in range(3):
            self.assertEqual([pages(first), pages(other), pages([])], answers)
            answers[0].append(0)
            answers[0].pop()
            self.assertEqual([first, other], copies)


if __name__ == "__main__":
    unittest.main()
