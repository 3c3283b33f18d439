import random
import time
import unittest

from tests import oracle
from tests.oracle import WIDE, entry, text
from vellumpages.setting import judge, line, page, pages

MOST = 18446744073709551615
SET = "^20 6 1 1 0 0"
# Paragraphs of so many lines; each line is full and has two words but the last, which has one.
TWO = ">a " + "b" * 17 + " c"
THREE = TWO + " " + "d" * 18 + " e"
FOUR = THREE + " " + "f" * 18 + " g"


def data(work):
    return list(work.encode())


class PageCase(unittest.TestCase):
    def tells(self, work, *expected):
        """Just these pages there are: first line, how many; came over, own, go on; kind, cost."""
        handed = data(work)
        for p, numbers in enumerate(expected, start=1):
            answer = page(p, handed)
            self.assertEqual(answer, list(numbers), p)
            self.assertTrue(type(answer) is list and all(type(number) is int for number in answer))
            self.assertEqual(page(p, handed), answer)
        for p in (0, len(expected) + 1, len(expected) + 2, 8193, MOST - 1, MOST):
            self.assertEqual(page(p, handed), [-4], p)
        self.assertEqual(handed, data(work))


class Whole(PageCase):
    def test_one_page(self):
        self.tells(text(SET, ">a"), (0, 1, 0, 0, 0, 0, 0))
        self.tells(text(SET, *[">a"] * 6), (0, 6, 0, 0, 0, 0, 0))

    def test_several_pages(self):
        self.tells(text(SET, *[">a"] * 13), (0, 6, 0, 0, 0, 0, 0), (6, 6, 0, 0, 0, 0, 0), (12, 1, 0, 0, 0, 0, 0))

    def test_first_line_is_counted_through_the_whole(self):
        for anew in (0, 1):
            self.tells(text(f"^20 6 1 1 {anew} 0", *[">a"] * 7), (0, 6, 0, 0, 0, 0, 0), (6, 1, 0, 0, 0, 0, 0))

    def test_own_foot_lines(self):
        self.tells(text(SET, ">a", "[0 1"), (0, 1, 0, 1, 0, 0, 0))
        self.tells(text(SET, ">a", ">b", "[0 1", entry(1, 3)), (0, 1, 0, 1, 0, 0, 9), (1, 1, 0, 3, 0, 0, 0))
        self.tells(text("^20 7 1 1 0 0", ">a", ">b", "[0 1", entry(1, 3)), (0, 2, 0, 4, 0, 0, 0))

    def test_cost_is_a_square(self):
        # The first wants 5 of 6; all is wanted of 6 where a rule and a foot line stand.
        self.tells(text(SET, *[">a"] * 8, "[5 1", "[6 1", "[7 1"),
                   (0, 5, 0, 0, 0, 0, 1), (5, 2, 0, 2, 0, 0, 1), (7, 1, 0, 1, 0, 0, 0))
        self.tells(text(SET, *[">a"] * 5, "[0 1"), (0, 4, 0, 1, 0, 0, 0), (4, 1, 0, 0, 0, 0, 0))
        self.tells(text("^20 12 1 1 0 0", ">a", ">b", entry(1, 10)), (0, 1, 0, 0, 0, 0, 121), (1, 1, 0, 10, 0, 0, 0))

    def test_a_page_that_holds_its_foot_just_so_is_whole(self):
        self.tells(text(SET, ">a", ">b", entry(0, 4)), (0, 1, 0, 4, 0, 0, 0), (1, 1, 0, 0, 0, 0, 0))

    def test_more_lines_first_of_pages_that_cost_alike(self):
        # 3, 4 costs 1 + 4 and so does 2, 5.
        self.tells(text(SET, *[">a"] * 8, "[0 1", entry(7, 4)),
                   (0, 3, 0, 1, 0, 0, 1), (3, 4, 0, 0, 0, 0, 4), (7, 1, 0, 4, 0, 0, 0))

    def test_a_note_at_the_tallest(self):
        self.tells(text("^20 240 1 1 0 0", ">a", entry(0, 238)), (0, 1, 0, 238, 0, 0, 0))
        self.tells(text("^20 240 1 1 0 0", ">a", entry(0, 239)), (0, 1, 0, 238, 1, 1, 0), (1, 0, 1, 0, 0, 2, 0))


class Loose(PageCase):
    """V for the last line, for the first line, for both and for none, on the last page and on others."""

    def test_last_line(self):
        # Line 6 is the first of three.
        self.tells(text("^20 6 1 1 0 1", *[">a"] * 5, THREE), (0, 6, 0, 0, 0, 0, 1), (6, 2, 0, 0, 0, 0, 0))

    def test_last_line_and_the_square(self):
        # The second line begins a paragraph of three, of which the second fills a page by its note.
        work = text("^20 6 1 1 0 3", ">a", THREE, entry(3, 4))
        self.tells(work, (0, 2, 0, 0, 0, 0, 19), (2, 1, 0, 4, 0, 0, 0), (3, 1, 0, 0, 0, 0, 3))

    def test_first_line_on_the_last_page(self):
        self.tells(text("^20 6 1 1 0 1", *[">a"] * 3, FOUR), (0, 6, 0, 0, 0, 0, 0), (6, 1, 0, 0, 0, 0, 1))

    def test_first_line_on_another_page(self):
        self.tells(text("^20 6 1 1 0 1", *[">a"] * 3, FOUR, *[">e"] * 6),
                   (0, 6, 0, 0, 0, 0, 0), (6, 6, 0, 0, 0, 0, 1), (12, 1, 0, 0, 0, 0, 0))

    def test_a_paragraph_of_two_lines_that_is_parted(self):
        self.tells(text("^20 6 1 1 0 7", TWO, entry(0, 4)), (0, 1, 0, 4, 0, 0, 7), (1, 1, 0, 0, 0, 0, 7))
        self.tells(text("^20 6 1 1 0 0", *[">a"] * 5, TWO), (0, 6, 0, 0, 0, 0, 0), (6, 1, 0, 0, 0, 0, 0))

    def test_both_on_one_page(self):
        # The second page begins with a paragraph's last line and ends with another's first.
        work = text("^20 6 1 1 0 2", TWO, *[">c"] * 4, TWO, entry(0, 4), entry(9, 4))
        self.tells(work, (0, 1, 0, 4, 0, 0, 2), (1, 6, 0, 0, 0, 0, 4), (7, 1, 0, 4, 0, 0, 2))
        # With the square: a line less would be four more of it.
        work = text("^20 6 1 1 0 1", TWO, ">c", ">c", TWO, entry(0, 4), entry(7, 4))
        self.tells(work, (0, 1, 0, 4, 0, 0, 1), (1, 4, 0, 0, 0, 0, 6), (5, 1, 0, 4, 0, 0, 1))

    def test_one_line_that_is_a_whole_paragraph(self):
        work = text("^20 6 1 1 0 10000", ">a", ">b", entry(0, 4), entry(1, 4))
        self.tells(work, (0, 1, 0, 4, 0, 0, 0), (1, 1, 0, 4, 0, 0, 0))

    def test_a_line_in_the_middle_of_its_paragraph(self):
        work = text("^20 6 1 1 0 10000", THREE, entry(0, 4), entry(2, 4), entry(4, 4))
        self.tells(work, (0, 1, 0, 4, 0, 0, 10000), (1, 1, 0, 4, 0, 0, 0), (2, 1, 0, 4, 0, 0, 10000))

    def test_a_paragraph_that_ends_or_begins_there(self):
        # The last line ends its paragraph, the next page's first begins one.
        work = text("^20 6 1 1 0 10000", THREE, THREE, THREE)
        self.tells(work, (0, 6, 0, 0, 0, 0, 0), (6, 3, 0, 0, 0, 0, 0))

    def test_cut_pages_and_feet_alone_are_not_loose(self):
        work = text("^20 6 1 1 0 10000", TWO, entry(0, 10), entry(2, 10))
        self.tells(work, (0, 1, 0, 4, 6, 1, 0), (1, 0, 5, 0, 1, 2, 0), (1, 1, 1, 3, 7, 1, 0), (2, 0, 5, 0, 2, 2, 0),
                   (2, 0, 2, 0, 0, 2, 0))


class CutAndAlone(PageCase):
    def test_cut_and_a_foot_alone(self):
        # Behind the last line, the first that's on no page is the one there isn't.
        self.tells(text(SET, ">a", entry(0, 5)), (0, 1, 0, 4, 1, 1, 0), (1, 0, 1, 0, 0, 2, 0))

    def test_several_feet_alone(self):
        self.tells(text(SET, ">a", entry(0, 11)), (0, 1, 0, 4, 7, 1, 0), (1, 0, 5, 0, 2, 2, 0), (1, 0, 2, 0, 0, 2, 0))
        self.tells(text(SET, ">a", entry(0, 9)), (0, 1, 0, 4, 5, 1, 0), (1, 0, 5, 0, 0, 2, 0))

    def test_whole_page_with_foot_lines_that_came_over(self):
        self.tells(text(SET, ">a", ">b", ">c", entry(0, 8)),
                   (0, 1, 0, 4, 4, 1, 0), (1, 1, 4, 0, 0, 0, 0), (2, 1, 0, 0, 0, 0, 0))
        self.tells(text(SET, ">a", ">b", ">c", entry(0, 6), entry(1, 1)),
                   (0, 1, 0, 4, 2, 1, 0), (1, 2, 2, 1, 0, 0, 0))

    def test_came_over_counts_for_the_square(self):
        # The second page wants 2 lines, 2 foot lines that came over and a rule, the third line's note 4 more.
        self.tells(text(SET, ">a", ">b", ">c", ">d", entry(0, 6), entry(3, 4)),
                   (0, 1, 0, 4, 2, 1, 0), (1, 2, 2, 0, 0, 0, 1), (3, 1, 0, 4, 0, 0, 0))

    def test_a_foot_alone_between_lines(self):
        self.tells(text(SET, ">a", ">b", ">c", entry(0, 9)),
                   (0, 1, 0, 4, 5, 1, 0), (1, 0, 5, 0, 0, 2, 0), (1, 2, 0, 0, 0, 0, 0))

    def test_cut_with_foot_lines_that_came_over(self):
        self.tells(text(SET, ">a", ">b", entry(0, 7), entry(1, 2)),
                   (0, 1, 0, 4, 3, 1, 0), (1, 1, 3, 1, 1, 1, 0), (2, 0, 1, 0, 0, 2, 0))
        # Of 4 that came over none stands with a line that has a note.
        self.tells(text(SET, ">a", ">b", entry(0, 8), entry(1, 2)),
                   (0, 1, 0, 4, 4, 1, 0), (1, 0, 4, 0, 0, 2, 0), (1, 1, 0, 2, 0, 0, 0))

    def test_cut_again_and_again(self):
        self.tells(text(SET, *[">a"] * 5, *[entry(k, 5) for k in range(5)]),
                   (0, 1, 0, 4, 1, 1, 0), (1, 1, 1, 3, 2, 1, 0), (2, 1, 2, 2, 3, 1, 0), (3, 1, 3, 1, 4, 1, 0),
                   (4, 0, 4, 0, 0, 2, 0), (4, 1, 0, 4, 1, 1, 0), (5, 0, 1, 0, 0, 2, 0))

    def test_another_height(self):
        self.tells(text("^20 9 1 1 0 0", ">a", ">b", entry(0, 14), entry(1, 3)),
                   (0, 1, 0, 7, 7, 1, 0), (1, 0, 7, 0, 0, 2, 0), (1, 1, 0, 3, 0, 0, 0))
        self.tells(text("^20 9 1 1 0 0", ">a", ">b", entry(0, 13), entry(1, 3)),
                   (0, 1, 0, 7, 6, 1, 0), (1, 1, 6, 1, 2, 1, 0), (2, 0, 2, 0, 0, 2, 0))


class Refused(PageCase):
    def test_no_words(self):
        self.tells(text(SET))
        self.tells(text("^240 240 16 100 1 10000", "(33 33 0"))

    def test_page_0(self):
        self.assertEqual(page(0, data(text(SET, ">a"))), [-4])
        self.assertEqual(page(0, data(text(SET))), [-4])

    def test_no_works_text(self):
        whole = text(SET, "(97 97 2", ">a b", "{0 x", "[1 1 t")
        for bad in ("", "x", whole + "x", whole + "\n", whole[:-1], text("^19 6 1 1 0 0", ">a"),
                    text(SET, "[0 0"), text(SET, ">a", "[0 2"), text(SET, ">")):
            for p in (0, 1, 2, MOST):
                self.assertEqual(page(p, data(bad)), [-6], (p, bad))
        for byte in (0, 127, 128, 255):
            self.assertEqual(page(1, data(whole) + [byte]), [-6])

    def test_as_judge_says(self):
        source = random.Random(60)
        for k in range(300):
            spoilt = list(oracle.spoiled(source, oracle.random_work(source).text()))
            self.assertEqual(page(source.choice((0, 1, MOST)), spoilt) == [-6], judge(spoilt)[0] == -6)

    def test_too_long(self):
        for p in (0, 1, MOST):
            self.assertEqual(page(p, [94] * 1048577), [-2])
            self.assertEqual(page(p, [94] * 1048576), [-6])


class AgainstTheWords(PageCase):
    def check(self, work):
        self.tells(work.text().decode(), *oracle.pages_told(work))

    def test_works(self):
        source = random.Random(61)
        for k in range(200):
            self.check(oracle.random_work(source))
            self.check(oracle.random_heavy(source))
            self.check(oracle.random_anew(source))

    def test_works_with_tall_pages(self):
        source = random.Random(62)
        for k in range(20):
            self.check(oracle.random_tall(source))


class AgainstPages(PageCase):
    """What is told of each page is what stands on it as it is printed."""

    def check(self, work):
        t = list(work.text())
        found = oracle.Printed(bytes(pages(t)[1:]))
        first = 0
        gone_on = 0
        for p, (lines, foot) in enumerate(found.pages, start=1):
            told = page(p, t)
            began = [foot_line.startswith(" #") for foot_line in foot] + [True]
            self.assertEqual(told[:3], [first, len(lines), began.index(True)])
            self.assertEqual(told[2] + told[3], len(foot))
            self.assertEqual(told[2] + (told[4] if told[5] == 2 else 0), gone_on)
            self.assertEqual(told[5] == 2, len(lines) == 0)
            self.assertEqual(told[5] == 1, len(lines) > 0 and told[4] > 0)
            self.assertEqual(self.own_by_line(t, told), told[3] + (told[4] if told[5] == 1 else 0))
            for k in range(first, first + len(lines)):
                self.assertEqual(line(k, t)[0], p)
            first += len(lines)
            gone_on = told[4]
        self.assertEqual(gone_on, 0)
        self.assertEqual(page(len(found.pages) + 1, t), [-4])

    def own_by_line(self, t, told):
        return sum(line(k, t)[5] for k in range(told[0], told[0] + told[1]))

    def test_works(self):
        source = random.Random(63)
        for k in range(200):
            self.check(oracle.random_work(source))
            self.check(oracle.random_heavy(source))

    def test_large_works(self):
        source = random.Random(64)
        for k in range(2):
            self.check(oracle.grown(source, 2500))


class Calls(PageCase):
    def test_nothing_is_kept_or_changed(self):
        first = data(text(SET, "(97 97 2", ">a b", "{0 x", "[1 1 t"))
        other = data(text("^30 7 2 2 1 9", ">c d", ">e", "[2 1 " + " ".join([WIDE] * 9)))
        copies = [list(first), list(other)]
        answers = [page(1, first), page(2, other), page(1, other), page(1, [])]
        for k in range(3):
            self.assertEqual([page(1, first), page(2, other), page(1, other), page(1, [])], answers)
            page(1, first).append(k)
            self.assertEqual([first, other], copies)

    def test_as_much_as_can_be_handed_in(self):
        many = 780
        for work, count in ((text("^20 240 1 1 1 0", *[">a"] * 2724), 12),
                            (text("^240 240 1 1 1 0", "(97 97 0", ">" + "a " * 4080 + "a"), 1),
                            (text("^240 240 1 1 1 0", "(97 97 0", ">b", *["[0 0" + " a" * 1000] * 4), 1),
                            (text("^20 6 1 1 1 0", ">" + "a" * 64 + " " + "b" * 64, *["[0 2"] * 1450), 291),
                            (text("^20 240 1 1 1 0", "(48 57 2", *[">a"] * many, *[f"[{k} 1" for k in range(many)]),
                             7)):
            begun = time.monotonic()
            self.assertLessEqual(len(work), 8190)
            self.assertEqual(len(page(count, data(work))), 7)
            self.assertEqual(page(count + 1, data(work)), [-4])
            self.assertLess(time.monotonic() - begun, 60)


if __name__ == "__main__":
    unittest.main()
