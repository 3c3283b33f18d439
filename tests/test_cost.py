import random
import time
import unittest

from tests import oracle
from tests.oracle import WIDE, entry, text
from vellumpages.setting import cost, judge, line, page

SET = "^20 6 1 1 0 0"
# Paragraphs of so many lines; each line is full and has two words but the last, which has one.
TWO = ">a " + "b" * 17 + " c"
THREE = TWO + " " + "d" * 18 + " e"


def data(work):
    return list(work.encode())


class CostCase(unittest.TestCase):
    def costs(self, work, page_count, of_lines, of_pages):
        handed = data(work)
        answer = cost(handed)
        self.assertEqual(answer, [page_count, of_lines, of_pages], work)
        self.assertTrue(type(answer) is list and all(type(number) is int for number in answer))
        self.assertEqual(cost(handed), answer)
        self.assertEqual(handed, data(work))


class OfLines(CostCase):
    def test_no_words(self):
        self.costs(text(SET), 0, 0, 0)
        self.costs(text("^240 240 16 100 1 10000", "(33 33 0"), 0, 0, 0)

    def test_paragraphs_of_one_line(self):
        self.costs(text(SET, ">a"), 1, 0, 0)
        self.costs(text(SET, ">a", ">b c", ">" + "d" * 19), 1, 0, 0)

    def test_paragraphs_of_several_lines(self):
        # The first line has 19 cells of room, the others 20, the last costs nothing.
        self.costs(text(SET, ">" + "a" * 10 + " " + "b" * 15), 1, 81, 0)
        self.costs(text(SET, ">" + "a" * 10 + " " + "b" * 15 + " " + "c" * 12), 1, 81 + 25, 0)
        self.costs(text("^20 6 5 1 0 0", ">" + "a" * 10 + " " + "b" * 18 + " " + "c" * 20), 1, 25 + 4, 0)
        self.costs(text(SET, THREE), 1, 0, 0)

    def test_paragraphs_are_added(self):
        one = ">" + "a" * 10 + " " + "b" * 15
        self.costs(text(SET, one, ">c", one, one), 2, 243, 0)

    def test_least(self):
        # 4 and 5 left, not 0 and 9; and 0 and 2 left as much as 2 and 0.
        self.costs(text(SET, ">" + " ".join(["a" * 15, "bbb", "c" * 11, "d" * 20, "e"])), 1, 41, 0)
        self.costs(text(SET, ">" + " ".join(["a" * 17, "x", "b" * 18, "c" * 5])), 1, 4, 0)

    def test_line_that_does_not_fit(self):
        self.costs(text(SET, ">" + "a" * 30 + " b"), 1, 0, 0)
        self.costs(text(SET, ">x " + "a" * 64 + " y"), 1, 324, 0)
        # 20 cells are too many for the first line alone.
        self.costs(text(SET, ">" + "a" * 20 + " " + "b" * 20 + " " + "c" * 20), 1, 0, 0)

    def test_one_cell_left(self):
        self.costs(text(SET, ">" + "a" * 18 + " " + "b" * 19 + " " + "c" * 20), 1, 2, 0)

    def test_strokes_are_counted(self):
        self.costs(text(SET, ">" + "a" * 10 + " " + "b" * 15, "{0 x", "{0 y z", "{1 w"), 1, 49, 0)
        self.costs(text(SET, ">" + "a" * 19 + " " + "b" * 15, "{0 x"), 1, 0, 0)

    def test_cells_by_rows(self):
        head = [SET, "(97 97 0", "(98 98 2"]
        self.costs(text(*head, ">aab " + "c" * 20), 1, 289, 0)
        self.costs(text(*head, ">a " + "b" * 10), 1, 361, 0)

    def test_the_widest(self):
        self.costs(text("^240 6 1 1 0 0", "(97 97 0", "(98 98 2", ">a " + "b" * 64 + " " + "b" * 64), 1, 110 ** 2, 0)


class OfPages(CostCase):
    def test_many_pages(self):
        self.costs(text(SET, *[">a"] * 6), 1, 0, 0)
        self.costs(text(SET, *[">a"] * 7), 2, 0, 0)
        self.costs(text(SET, *[">a"] * 2000), 334, 0, 0)

    def test_squares(self):
        self.costs(text(SET, *[">a"] * 8, "[5 1", "[6 1", "[7 1"), 3, 0, 2)
        self.costs(text("^20 12 1 1 0 0", ">a", ">b", entry(1, 10)), 2, 0, 121)
        self.costs(text(SET, *[">a"] * 8, "[0 1", entry(7, 4)), 3, 0, 5)

    def test_the_last_page_has_no_square(self):
        self.costs(text("^20 240 1 1 0 0", ">a"), 1, 0, 0)

    def test_loose(self):
        # The first page's last line, the second's first and last, the third's first.
        work = text("^20 6 1 1 0 2", TWO, *[">c"] * 4, TWO, entry(0, 4), entry(9, 4))
        self.costs(work, 3, 0, 8)
        self.costs(work.replace(" 2\n", " 0\n", 1), 3, 0, 0)
        self.costs(text("^20 6 1 1 0 10000", THREE, entry(0, 4), entry(2, 4), entry(4, 4)), 3, 0, 20000)
        self.costs(text("^20 6 1 1 0 10000", *[">a"] * 5, TWO), 2, 0, 1)

    def test_cut_pages_and_feet_alone(self):
        self.costs(text(SET, ">a", entry(0, 5)), 2, 0, 0)
        self.costs(text(SET, ">a", entry(0, 11)), 3, 0, 0)
        self.costs(text("^20 6 1 1 0 10000", TWO, entry(0, 10), entry(2, 10)), 5, 0, 0)
        self.costs(text(SET, ">a", ">b", ">c", ">d", entry(0, 6), entry(3, 4)), 3, 0, 1)

    def test_both(self):
        # What's left in lines, and what's left on pages.
        one = ">a " + "b" * 10 + " " + "c" * 18
        self.costs(text("^20 6 1 1 0 0", one, one, ">d", entry(6, 2)), 2, 98, 4)

    def test_notes_are_left_out(self):
        self.costs(text(SET, ">a", entry(0, 3)), 1, 0, 0)
        self.costs(text("^20 12 1 1 0 0", ">a", "[0 1 t " + "u" * 20 + " v " + "w" * 19 + " x"), 1, 0, 0)
        self.costs(text(SET, ">" + "a" * 10 + " " + "b" * 15, "[0 1 " + WIDE), 1, 81, 0)


class Refused(CostCase):
    def test_no_works_text(self):
        whole = text(SET, "(97 97 2", ">a b", "{0 x", "[1 1 t")
        self.costs(whole, 1, 0, 0)
        for bad in ("", "x", whole + "x", whole + "\n", whole[:-1], text("^19 6 1 1 0 0", ">a"),
                    text(SET, "[0 0"), text(SET, ">a", "[0 2"), text(SET, ">"), text(SET, "=1", "   1  a")):
            self.assertEqual(cost(data(bad)), [-6], bad)
        for byte in (0, 127, 128, 255):
            self.assertEqual(cost(data(whole) + [byte]), [-6])

    def test_as_judge_says(self):
        source = random.Random(70)
        for k in range(300):
            spoilt = list(oracle.spoiled(source, oracle.random_work(source).text()))
            self.assertEqual(cost(spoilt) == [-6], judge(spoilt)[0] == -6)

    def test_too_long(self):
        self.assertEqual(cost([94] * 1048577), [-2])
        self.assertEqual(cost([94] * 1048576), [-6])


class AgainstTheWords(CostCase):
    def check(self, work):
        self.costs(work.text().decode(), *oracle.costs_told(work))

    def test_works(self):
        source = random.Random(71)
        for k in range(200):
            self.check(oracle.random_work(source))
            self.check(oracle.random_heavy(source))
            self.check(oracle.random_anew(source))

    def test_works_with_tall_pages(self):
        source = random.Random(72)
        for k in range(20):
            self.check(oracle.random_tall(source))

    def test_none_costs_less(self):
        # Whatever breakings and pages are taken by lot.
        source = random.Random(73)
        for k in range(150):
            work = source.choice((oracle.random_work, oracle.random_heavy))(source)
            least = cost(list(work.text()))
            width, indent = work.settings[0], work.settings[2]
            of_lines = 0
            for takes in oracle.takes_of_paragraphs(work):
                breaking = source.choice(list(oracle.all_breakings(takes, (width - indent, width))))
                of_lines += sum(line[2] for line in breaking)
            self.assertLessEqual(least[1], of_lines)
            self.assertLessEqual(least[2], source.choice(list(oracle.Pager(work).plans()))[0])


class AgainstPage(CostCase):
    def test_pages_are_added(self):
        source = random.Random(74)
        for k in range(100):
            t = list(oracle.random_heavy(source).text())
            count, of_lines, of_pages = cost(t)
            self.assertEqual(page(count + 1, t), [-4])
            self.assertEqual(sum(page(p, t)[6] for p in range(1, count + 1)), of_pages)

    def test_lines_are_added(self):
        # Paragraphs without notes: each line's room less what it takes, but in the last.
        source = random.Random(75)
        for k in range(100):
            words = [oracle.random_thing(source, 9, "ab") for at in range(source.randint(1, 60))]
            t = data(text(SET, ">" + " ".join(words)))
            told = []
            while line(len(told), t) != [-4]:
                told.append(line(len(told), t))
            left = [20 - (k == 0) - numbers[4] for k, numbers in enumerate(told)]
            self.assertEqual(cost(t)[1], sum(cells ** 2 for cells in left[:-1]))


class Calls(CostCase):
    def test_nothing_is_kept_or_changed(self):
        first = data(text(SET, ">" + "a" * 10 + " " + "b" * 15, "[1 1 t"))
        other = data(text("^30 7 2 2 1 9", ">c d", ">e", "[2 1 " + " ".join([WIDE] * 9)))
        copies = [list(first), list(other)]
        answers = [cost(first), cost(other), cost([])]
        for k in range(3):
            self.assertEqual([cost(first), cost(other), cost([])], answers)
            cost(first).append(k)
            self.assertEqual([first, other], copies)

    def test_as_much_as_can_be_handed_in(self):
        many = 780
        for work, count in ((text("^20 240 1 1 1 0", *[">a"] * 2724), 12),
                            (text("^240 240 1 1 1 0", "(97 97 0", ">" + "a " * 4080 + "a"), 1),
                            (text("^240 240 1 1 1 0", "(97 97 0", ">b", *["[0 0" + " a" * 1000] * 4), 1),
                            (text("^20 6 1 1 1 0", ">" + "a" * 64 + " " + "b" * 64, *["[0 2"] * 1450), 291),
                            (text("^20 240 1 1 1 0", "(48 57 2", *[">a"] * many, *[f"[{k} 1" for k in range(many)]),
                             7)):
            begun = time.monotonic()
            self.assertEqual(cost(data(work))[0], count)
            self.assertLess(time.monotonic() - begun, 60)


if __name__ == "__main__":
    unittest.main()
