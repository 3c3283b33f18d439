import random
import time
import unittest

from tests import oracle
from tests.oracle import WIDE, entry, text
from vellumpages.setting import judge, line, pages

MOST = 18446744073709551615
SET = "^20 6 1 1 0 0"


def data(work):
    return list(work.encode())


def printed(t):
    return oracle.Printed(bytes(pages(t)[1:]))


class LineCase(unittest.TestCase):
    def tells(self, work, *expected):
        """Just these lines there are, and just this is told of them: page, number, first, how many, takes, notes."""
        handed = data(work)
        for k, numbers in enumerate(expected):
            answer = line(k, handed)
            self.assertEqual(answer, list(numbers), k)
            self.assertTrue(type(answer) is list and all(type(number) is int for number in answer))
            self.assertEqual(line(k, handed), answer)
        for k in (len(expected), len(expected) + 1, 8192, MOST - 1, MOST):
            self.assertEqual(line(k, handed), [-4], k)
        self.assertEqual(handed, data(work))


class Ordinary(LineCase):
    def test_one_line(self):
        self.tells(text(SET, ">aaa bb"), (1, 1, 0, 2, 6, 0))

    def test_several_paragraphs(self):
        self.tells(text(SET, ">a", ">b c", ">d"), (1, 1, 0, 1, 1, 0), (1, 2, 1, 2, 3, 0), (1, 3, 3, 1, 1, 0))

    def test_first_line_and_later_ones(self):
        # The indent is room that's left out, not cells that the line takes.
        words = ["a" * 4, "b" * 20, "c" * 9, "d" * 10, "e"]
        self.tells(text("^20 6 16 1 0 0", ">" + " ".join(words)),
                   (1, 1, 0, 1, 4, 0), (1, 2, 1, 1, 20, 0), (1, 3, 2, 2, 20, 0), (1, 4, 4, 1, 1, 0))

    def test_full_first_line(self):
        self.tells(text(SET, ">" + "a" * 17 + " b " + "c" * 20), (1, 1, 0, 2, 19, 0), (1, 2, 2, 1, 20, 0))

    def test_least_cost(self):
        # 4 and 5 left cost less than 0 and 9.
        self.tells(text(SET, ">" + " ".join(["a" * 15, "bbb", "c" * 11, "d" * 20, "e"])),
                   (1, 1, 0, 1, 15, 0), (1, 2, 1, 2, 15, 0), (1, 3, 3, 1, 20, 0), (1, 4, 4, 1, 1, 0))

    def test_line_that_does_not_fit(self):
        self.tells(text(SET, ">x " + "a" * 64 + " y z"), (1, 1, 0, 1, 1, 0), (1, 2, 1, 1, 64, 0), (1, 3, 2, 2, 3, 0))
        self.tells(text("^20 6 5 1 0 0", ">" + "a" * 16 + " b"), (1, 1, 0, 1, 16, 0), (1, 2, 1, 1, 1, 0))

    def test_strokes_are_counted(self):
        self.tells(text(SET, ">a b c", "{0 x", "{2 y^ z", "{2 ^"), (1, 1, 0, 3, 8, 0))
        # The stroke doesn't fit into the first line any more.
        words = "a" * 10 + " " + "b" * 8 + " c"
        self.tells(text(SET, ">" + words), (1, 1, 0, 2, 19, 0), (1, 2, 2, 1, 1, 0))
        self.tells(text(SET, ">" + words, "{1 s"), (1, 1, 0, 1, 10, 0), (1, 2, 1, 2, 11, 0))
        self.tells(text(SET, ">" + "a" * 20, "{0 s", "{0 s", "{0 s"), (1, 1, 0, 1, 23, 0))

    def test_texts_of_signs_take_nothing(self):
        self.tells(text(SET, ">a", "{0 " + " ".join(["x" * 16] * 4)), (1, 1, 0, 1, 2, 0))

    def test_cells_by_rows(self):
        head = [SET, "(97 97 0", "(98 98 2", "(124 124 0"]
        self.tells(text(*head, ">a b cbb", "{1 x"), (1, 1, 0, 3, 10, 0))
        self.tells(text(*head, ">" + "a" * 64), (1, 1, 0, 1, 0, 0))
        self.tells(text(*head, ">" + "b" * 64), (1, 1, 0, 1, 128, 0))
        self.tells(text(*head, ">\u00e9\u4e2d\U0001f600"), (1, 1, 0, 1, 3, 0))


class Numbers(LineCase):
    def test_through_the_whole(self):
        self.tells(text(SET, *[">a"] * 8), *[(1, k + 1, k, 1, 1, 0) for k in range(6)],
                   (2, 7, 6, 1, 1, 0), (2, 8, 7, 1, 1, 0))

    def test_anew(self):
        self.tells(text("^20 6 1 1 1 0", *[">a"] * 8), *[(1, k + 1, k, 1, 1, 0) for k in range(6)],
                   (2, 1, 6, 1, 1, 0), (2, 2, 7, 1, 1, 0))

    def test_every_line_has_its_number_whatever_is_printed(self):
        for anew in (0, 1):
            self.tells(text(f"^20 6 1 100 {anew} 0", ">a", ">b"), (1, 1, 0, 1, 1, 0), (1, 2, 1, 1, 1, 0))

    def test_many_lines(self):
        work = data(text("^20 6 1 1 0 0", *[">a"] * 2000))
        self.assertEqual(line(1999, work), [334, 2000, 1999, 1, 1, 0])
        self.assertEqual(line(2000, work), [-4])
        work = data(text("^20 240 1 1 1 0", *[">a"] * 2000))
        self.assertEqual(line(1999, work), [9, 80, 1999, 1, 1, 0])


class Notes(LineCase):
    def test_with_and_without_a_note(self):
        self.tells(text(SET, ">a", ">b", ">c", "[1 1 t"), (1, 1, 0, 1, 1, 0), (1, 2, 1, 1, 1, 1), (1, 3, 2, 1, 1, 0))

    def test_several_entries_are_one_note(self):
        self.tells(text(SET, ">a b", "[0 0", "[0 1", "[1 1 t"), (1, 1, 0, 2, 3, 1))

    def test_entry_behind_all(self):
        self.tells(text(SET, ">a", ">b", "[2 0 t"), (1, 1, 0, 1, 1, 0), (1, 2, 1, 1, 1, 1))

    def test_entry_over_lines_belongs_to_its_first(self):
        self.tells(text(SET, ">a", ">b", "[0 2 t"), (1, 1, 0, 1, 1, 1), (1, 2, 1, 1, 1, 0))

    def test_several_foot_lines(self):
        self.tells(text("^20 12 1 1 0 0", ">a", ">b", entry(0, 3), entry(1, 2)), (1, 1, 0, 1, 1, 3), (1, 2, 1, 1, 1, 2))

    def test_a_note_that_goes_on_over_further_pages(self):
        # 4 foot lines stand on the first page, 5 on the second, 2 on the third, where the next lines stand too.
        for anew, numbers in ((0, (1, 2, 3)), (1, (1, 1, 2))):
            self.tells(text(f"^20 6 1 1 {anew} 0", ">a", ">b", ">c", entry(0, 11)),
                       (1, numbers[0], 0, 1, 1, 11), (3, numbers[1], 1, 1, 1, 0), (3, numbers[2], 2, 1, 1, 0))

    def test_a_line_behind_pages_without_lines(self):
        for anew, number in ((0, 2), (1, 1)):
            self.tells(text(f"^20 6 1 1 {anew} 0", ">a", ">b", entry(0, 20)),
                       (1, 1, 0, 1, 1, 20), (5, number, 1, 1, 1, 0))

    def test_a_note_that_goes_on_behind_the_last_line(self):
        self.tells(text(SET, ">a", ">b", entry(1, 30)), (1, 1, 0, 1, 1, 0), (2, 2, 1, 1, 1, 30))

    def test_cut_page_with_foot_lines_that_came_over(self):
        self.tells(text(SET, ">a", ">b", ">c", entry(0, 7), entry(1, 2)),
                   (1, 1, 0, 1, 1, 7), (2, 2, 1, 1, 1, 2), (3, 3, 2, 1, 1, 0))

    def test_number_tells_how_many(self):
        # #1 leaves room for the token on one foot line, #10 doesn't; on page 2 the tenth line is the first.
        rest = [*[">a"] * 10, "[9 1 " + "t" * 13]
        first_nine = [(1, k + 1, k, 1, 1, 0) for k in range(9)]
        self.tells(text("^20 12 1 1 1 0", *rest), *first_nine, (2, 1, 9, 1, 1, 1))
        self.tells(text("^20 12 1 1 0 0", *rest), *first_nine, (2, 10, 9, 1, 1, 2))
        self.tells(text("^20 13 1 1 1 0", *rest), *first_nine, (1, 10, 9, 1, 1, 2))

    def test_note_of_one_wide_thing(self):
        self.tells(text(SET, ">" + "a" * 30, "[0 1"), (1, 1, 0, 1, 30, 2))


class Refused(LineCase):
    def test_no_words(self):
        self.tells(text(SET))
        self.tells(text("^240 240 16 100 1 10000", "(33 33 0"))
        self.assertEqual(line(0, data(text(SET))), [-4])

    def test_no_works_text(self):
        whole = text(SET, "(97 97 2", ">a b", "{0 x", "[1 1 t")
        for bad in ("", "x", whole + "x", whole + "\n", whole[:-1], text("^19 6 1 1 0 0", ">a"),
                    text(SET, "[0 0"), text(SET, ">a", "[0 2"), text(SET, ">")):
            for k in (0, 1, 2, 5, MOST):
                self.assertEqual(line(k, data(bad)), [-6], (k, bad))
        for byte in (0, 127, 128, 255):
            self.assertEqual(line(0, data(whole) + [byte]), [-6])

    def test_as_judge_says(self):
        source = random.Random(50)
        for k in range(300):
            spoilt = list(oracle.spoiled(source, oracle.random_work(source).text()))
            self.assertEqual(line(source.choice((0, MOST)), spoilt) == [-6], judge(spoilt)[0] == -6)

    def test_too_long(self):
        for k in (0, MOST):
            self.assertEqual(line(k, [94] * 1048577), [-2])
            self.assertEqual(line(k, [94] * 1048576), [-6])


class AgainstTheWords(LineCase):
    def check(self, work):
        self.tells(work.text().decode(), *oracle.lines_told(work))

    def test_works(self):
        source = random.Random(51)
        for k in range(200):
            self.check(oracle.random_work(source))
            self.check(oracle.random_heavy(source))
            self.check(oracle.random_anew(source))

    def test_works_with_tall_pages(self):
        source = random.Random(52)
        for k in range(20):
            self.check(oracle.random_tall(source))


class AgainstPages(LineCase):
    """What is told of each line is what stands on the printed pages."""

    def check(self, work):
        t = list(work.text())
        at = 0
        found = printed(t)
        for number, (lines, foot) in enumerate(found.pages, start=1):
            for here, body in enumerate(lines, start=1):
                told = line(at, t)
                self.assertEqual(told[0], number)
                self.assertEqual(told[1], here if work.settings[4] else at + 1)
                if told[1] % work.settings[3] == 0:
                    self.assertEqual(body[:4], "%4d" % told[1])
                self.assertEqual((told[2], told[2] + told[3]), found.lines[at])
                self.assertEqual(told[4], work.cells(body[5:].partition(" {")[0].lstrip(" ")))
                at += 1
        self.assertEqual(line(at, t), [-4])
        self.assertEqual(self.note_lengths(found), [line(k, t)[5] for k in range(at) if line(k, t)[5] > 0])

    def note_lengths(self, found):
        """How many foot lines each note has, on whatever pages."""
        lengths = []
        for foot_line in (foot_line for lines, foot in found.pages for foot_line in foot):
            if foot_line.startswith(" #"):
                lengths.append(0)
            lengths[-1] += 1
        return lengths

    def test_works(self):
        source = random.Random(53)
        for k in range(200):
            self.check(oracle.random_work(source))
            self.check(oracle.random_heavy(source))

    def test_large_works(self):
        source = random.Random(54)
        for k in range(2):
            self.check(oracle.grown(source, 2500))


class Calls(LineCase):
    def test_nothing_is_kept_or_changed(self):
        first = data(text(SET, "(97 97 2", ">a b", "{0 x", "[1 1 t"))
        other = data(text("^30 7 2 2 1 9", ">c d", ">e", "[2 1 " + " ".join([WIDE] * 9)))
        copies = [list(first), list(other)]
        answers = [line(0, first), line(1, other), line(1, first), line(0, [])]
        for k in range(3):
            self.assertEqual([line(0, first), line(1, other), line(1, first), line(0, [])], answers)
            line(0, first).append(k)
            self.assertEqual([first, other], copies)

    def test_as_much_as_can_be_handed_in(self):
        many = 780
        for work, lines in ((text("^20 240 1 1 1 0", *[">a"] * 2724), 2724),
                            (text("^240 240 1 1 1 0", "(97 97 0", ">" + "a " * 4080 + "a"), 17),
                            (text("^240 240 1 1 1 0", "(97 97 0", ">b", *["[0 0" + " a" * 1000] * 4), 1),
                            (text("^20 6 1 1 1 0", ">" + "a" * 64 + " " + "b" * 64, *["[0 2"] * 1450), 2),
                            (text("^20 240 1 1 1 0", "(48 57 2", *[">a"] * many,
                                  *[f"[{k} 1" for k in range(many)]), many)):
            begun = time.monotonic()
            self.assertLessEqual(len(work), 8190)
            self.assertEqual(len(line(lines - 1, data(work))), 6)
            self.assertEqual(line(lines, data(work)), [-4])
            self.assertLess(time.monotonic() - begun, 60)


if __name__ == "__main__":
    unittest.main()
