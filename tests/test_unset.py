import random
import time
import unittest
import unittest.mock

from tests import oracle
from tests.oracle import WIDE, entry, text
from vellumpages.setting import judge, pages, unset

SET = "^20 6 1 1 0 0"
SIGNS = b"0129 \n^(>{[ab#~|=+]}\x00\x7f\x80\xc3\xff"


def data(shown):
    return list(shown.encode())


class UnsetCase(unittest.TestCase):
    maxDiff = None

    def gives(self, shown, work):
        """What is shown is printed by this work: it gives it back."""
        handed = data(shown)
        answer = unset(handed)
        self.assertEqual(bytes(answer[1:]).decode(), work)
        self.assertEqual(answer[0], len(answer) - 1)
        self.assertTrue(type(answer) is list and all(type(number) is int for number in answer))
        self.assertEqual(unset(handed), answer)
        self.assertEqual(handed, data(shown))

    def refuses(self, *shown):
        for one in shown:
            handed = data(one)
            self.assertEqual(unset(handed), [-6], one)
            self.assertEqual(unset(handed), [-6], one)
            self.assertEqual(handed, data(one))

    def comes_back(self, work):
        """The work's pages give it back, whatever they are."""
        shown = bytes(pages(data(work))[1:]).decode()
        self.gives(shown, work)
        return shown

    def only(self, work, right, *wrong):
        """Of these bodies behind the settings and widths just the right one is the work's print."""
        head = "".join(row + "\n" for row in work.split("\n") if row[:1] in ("^", "("))
        self.gives(head + right, work)
        self.refuses(*[head + one for one in wrong])


class GivenBack(UnsetCase):
    def test_no_words(self):
        self.gives(text(SET), text(SET))
        self.gives(text("^240 240 16 100 1 10000", "(33 33 0", "(34 1114111 2"),
                   text("^240 240 16 100 1 10000", "(33 33 0", "(34 1114111 2"))

    def test_words(self):
        self.gives(text(SET, "=1", "   1  a"), text(SET, ">a"))
        self.gives(text(SET, "=1", "   1  a bc", "   2  d"), text(SET, ">a bc", ">d"))
        self.gives(text(SET, "=1", "   1  " + "a" * 19, "   2 b"), text(SET, ">" + "a" * 19 + " b"))

    def test_indent(self):
        for indent in range(1, 17):
            self.gives(text(f"^20 6 {indent} 1 0 0", "=1", "   1 " + " " * indent + "a", "   2 " + " " * indent + "b"),
                       text(f"^20 6 {indent} 1 0 0", ">a", ">b"))

    def test_long_characters(self):
        self.gives(text(SET, "=1", "   1  \u00e9\u4e2d\U0001f600 |\U0010fffd {\u00fc}", "~",
                        " #1 [\u00e9\u4e2d\U0001f600] \u03b1"),
                   text(SET, ">\u00e9\u4e2d\U0001f600 \U0010fffd", "{1 \u00fc", "[0 1 \u03b1"))

    def test_cells(self):
        for row in ("(97 97 0", "(97 97 2", "(33 1114111 2", "(33 1114111 0"):
            for count in (1, 7, 20, 45):
                self.comes_back(text(SET, row, ">" + " ".join(["a"] * count), ">b", "[0 0 a a a", "[0 1 aa"))

    def test_signs(self):
        self.gives(text(SET, "=1", "   1  |a b ||c {x|y^ z|^}"), text(SET, ">a b c", "{0 x", "{2 y^ z", "{2 ^"))
        self.gives(text(SET, "=1", "   1  |" + "a" * 18 + " {x}", "   2 |b {y}", "   3  |c {z}"),
                   text(SET, ">" + "a" * 18 + " b", ">c", "{0 x", "{1 y", "{2 z"))
        self.comes_back(text(SET, ">a b", "{0 " + " ".join(["^" * 16] * 4), "{0 x", "{0 x", "{1 y"))
        self.comes_back(text(SET, ">a", *["{0 x"] * 30))

    def test_keys(self):
        self.comes_back(text(SET, ">a b c", "[0 0", "[0 1", "[0 2", "[0 3 t", "[1 0 u v", "[2 1", "[3 0", "[3 0 w"))
        self.comes_back(text(SET, ">a b a a", *[f"[{f} {m} t" for f in range(5) for m in range(5 - f)]))
        self.comes_back(text(SET, ">a a", ">a", ">a a", *[f"[{f} {m}" for f in range(6) for m in range(6 - f)]))

    def test_same_key_more_than_once(self):
        self.gives(text(SET, "=1", "   1  a", "~", " #1 [a] t [a] [a] t"), text(SET, ">a", "[0 1 t", "[0 1", "[0 1 t"))

    def test_behind_all(self):
        self.gives(text(SET, "=1", "   1  a", "~", " #1 [+]"), text(SET, ">a", "[1 0"))
        self.gives(text(SET, "=1", "   1  a", "   2  b", "~", " #2 [+] t [+] u"), text(SET, ">a", ">b", "[2 0 t", "[2 0 u"))
        # Its note begins on the last line's page, and goes on behind it.
        self.comes_back(text(SET, ">a", "[1 0 " + " ".join([WIDE] * 20), "[1 0"))

    def test_tokens(self):
        self.comes_back(text(SET, ">a", "[0 1 | / ( ) ] < > { } = + ~ ^ \" a[ a# ]] +a] ~2~ ^1 =1 {x} >a"))
        self.comes_back(text(SET, ">a", "[0 1 " + "\u00e9" * 64 + " " + "]" * 64))
        self.comes_back(text("^240 6 1 1 0 0", ">a", "[0 1" + " t" * 1024, "[1 0" + " t" * 1024))

    def test_notes_over_several_pages(self):
        for anew in (0, 1):
            for many in (4, 5, 8, 9, 10, 30):
                self.comes_back(text(f"^20 6 1 1 {anew} 0", ">a", ">b", ">c", entry(0, many), entry(1, many)))
            self.comes_back(text(f"^20 6 1 1 {anew} 0", *[">a"] * 5, *[entry(k, 5) for k in range(5)]))

    def test_numbers_anew(self):
        # Notes of the same number on two pages.
        for anew in (0, 1):
            shown = self.comes_back(text(f"^20 6 1 1 {anew} 0", *[">a"] * 8, "[0 1 x", "[4 1 y", "[5 1 z"))
            self.assertEqual(shown.count(" #1 "), 1 + anew)

    def test_every(self):
        for every in range(1, 101):
            for anew in (0, 1):
                self.comes_back(text(f"^20 6 1 {every} {anew} 0", *[">a b"] * 10, "[3 2 t", "[19 1"))
        self.comes_back(text("^20 240 1 100 0 0", *[">a"] * 250))

    def test_long_numbers(self):
        self.comes_back(text("^20 6 1 1 0 0", *[">a"] * 1005, "[1000 1", "[1004 0"))

    def test_word_of_most_letters(self):
        self.comes_back(text(SET, ">" + "a" * 64 + " " + "\U0001f600" * 64, "{0 x", "[0 2", "[1 0"))


class AgainstTheWords(UnsetCase):
    def check(self, work):
        expected = list(work.text())
        handed = list(oracle.printed(work))
        self.assertEqual(unset(handed), [len(expected)] + expected, work.text().decode())
        self.assertEqual(handed, list(oracle.printed(work)))

    def test_works(self):
        source = random.Random(80)
        for k in range(200):
            self.check(oracle.random_work(source))
            self.check(oracle.random_heavy(source))
            self.check(oracle.random_anew(source))

    def test_works_with_tall_pages(self):
        source = random.Random(81)
        for k in range(20):
            self.check(oracle.random_tall(source))

    def test_pages_give_the_work_back(self):
        source = random.Random(82)
        for k in range(500):
            work = source.choice((oracle.random_work, oracle.random_heavy))(source)
            self.comes_back(work.text().decode())
        for k in range(10):
            self.comes_back(oracle.grown(source, 4000).text().decode())

    def test_like_words(self):
        # Words of few letters, so that many are in a line more than once.
        source = random.Random(83)
        for k in range(200):
            work = oracle.Work()
            work.settings = oracle.random_settings(source)
            for at in range(source.randint(1, 4)):
                work.paragraphs.append([oracle.random_thing(source, 2, "ab") for word in range(source.randint(1, 25))])
            n = len(work.words)
            for f in sorted(source.randint(0, n) for at in range(source.randint(1, 12))):
                tokens = [oracle.random_thing(source, 3, "ab^~+]") for at in range(source.randrange(3))]
                work.entries.append((f, source.randint(0, min(n - f, source.choice((1, 2, 40)))), tokens))
            for f in sorted(source.randrange(n) for at in range(source.randrange(6))):
                work.signs.append((f, oracle.random_thing(source, 3, "ab^")))
            self.comes_back(work.text().decode())


class Heads(UnsetCase):
    def test_no_bytes(self):
        self.assertEqual(unset([]), [-6])

    def test_no_head(self):
        self.refuses("=1\n", "=1\n   1  a\n", "\n", "^", "^\n", " " + text(SET), text("", SET))

    def test_settings(self):
        body = ("=1", "   1  a")
        self.gives(text(SET, *body), text(SET, ">a"))
        for settings in ("^19 6 1 1 0 0", "^241 6 1 1 0 0", "^20 5 1 1 0 0", "^20 241 1 1 0 0", "^20 6 0 1 0 0",
                         "^20 6 17 1 0 0", "^20 6 1 0 0 0", "^20 6 1 101 0 0", "^20 6 1 1 2 0", "^20 6 1 1 0 10001",
                         "^20 6 1 1 0", "^20 6 1 1 0 0 0", "^020 6 1 1 0 0", "^20  6 1 1 0 0", "20 6 1 1 0 0",
                         "^20 6 1 1 0 0 ", "^ 20 6 1 1 0 0", "^20 6 2 1 0 0", "^20 6 1 2 0 0", "^20 6 1 1 0 -1"):
            self.refuses(text(settings, *body))
        self.refuses(text(SET, SET, *body))

    def test_widths(self):
        body = ("=1", "   1  a")
        self.gives(text(SET, "(97 97 2", *body), text(SET, "(97 97 2", ">a"))
        for rows in (["(97 97 3"], ["(32 97 1"], ["(97 96 1"], ["(97 97 1", "(97 98 1"], ["(98 98 1", "(97 97 1"],
                     ["(97 97"], ["(97 1114112 1"], ["(097 97 1"], ["( 97 97 1"], ["(97 97 1 "]):
            self.refuses(text(SET, *rows, *body), text(SET, *rows))

    def test_too_many_widths(self):
        rows = [f"({33 + k} {33 + k} 1" for k in range(65)]
        self.gives(text(SET, *rows[:64], "=1", "   1  a"), text(SET, *rows[:64], ">a"))
        self.refuses(text(SET, *rows, "=1", "   1  a"))

    def test_a_text_is_no_print(self):
        self.refuses(text(SET, ">a"), text(SET, ">a", "{0 x"), text(SET, ">a", "[0 1"))

    def test_pages_without_lines(self):
        self.refuses(text(SET, "=1"), text(SET, "=1", "~"), text(SET, "=1", "~", " #1 [+]"), text(SET, "=1", "=2"))


class Numbers(UnsetCase):
    def test_page_numbers(self):
        work = text(SET, *[">a"] * 7)
        right = text("=1", *["   %d  a" % k for k in range(1, 7)], "=2", "   7  a")
        self.only(work, right, right.replace("=1", "=2"), right.replace("=2", "=3"), right.replace("=2", "=1"),
                  right.replace("=1", "=01"), right.replace("=1", "= 1"), right.replace("=1", "=1 "),
                  right.replace("=1\n", "="), right.replace("=1\n", ""), right.replace("=2\n", ""),
                  right.replace("=1", "="), right.replace("=1", "=0"), right + "=3\n", right.replace("=1", "=" + "9" * 5000))

    def test_line_numbers(self):
        work = text(SET, ">a", ">b")
        right = text("=1", "   1  a", "   2  b")
        self.only(work, right, *[right.replace("   2", margin) for margin in (
            "   1", "   3", "    ", "2   ", "  2 ", "  02", " 2  ", "0002", "2", "  2", "    2", "   x", "   -", "12")])
        self.only(work.replace("1 0 0\n", "2 0 0\n"), right.replace("   1", "    "), right,
                  right.replace("   1", "    ").replace("   2", "    "))

    def test_line_numbers_anew(self):
        bodies = [text("=1", *["   %d  a" % k for k in range(1, 7)], "=2", f"   {k}  a") for k in (1, 7)]
        self.only(text("^20 6 1 1 0 0", *[">a"] * 7), bodies[1], bodies[0])
        self.only(text("^20 6 1 1 1 0", *[">a"] * 7), bodies[0], bodies[1])

    def test_note_numbers(self):
        work = text(SET, ">a", ">a", "[1 1 t")
        right = text("=1", "   1  a", "   2  a", "~", " #2 [a] t")
        self.only(work, right, *[right.replace("#2", number) for number in (
            "#0", "#3", "#02", "#", "#2#2", "# 2", "##2", "2", "#-1", "#x", "#" + "9" * 5000, "#2 #2")])
        self.gives(text(SET) + right.replace("#2", "#1"), text(SET, ">a", ">a", "[0 1 t"))

    def test_note_numbers_anew(self):
        bodies = [text("=1", *["   %d  a" % k for k in range(1, 7)], "=2", f"   {k}  a", "~", f" #{at} [a]")
                  for k in (1, 7) for at in (1, 7)]
        self.only(text("^20 6 1 1 0 0", *[">a"] * 7, "[6 1"), bodies[3], bodies[0], bodies[1], bodies[2])
        self.only(text("^20 6 1 1 1 0", *[">a"] * 7, "[6 1"), bodies[0], bodies[1], bodies[2], bodies[3])

    def test_notes_out_of_order(self):
        work = text(SET, ">a", ">b", "[0 1", "[1 1")
        right = text("=1", "   1  a", "   2  b", "~", " #1 [a]", " #2 [b]")
        self.only(work, right, text("=1", "   1  a", "   2  b", "~", " #2 [b]", " #1 [a]"),
                  right.replace("[a]", "[b]"), right.replace("#1 [a]", "#1"),
                  right.replace(" #1 [a]\n", " [a]\n"), right.replace(" #1 [a]\n", " t\n"),
                  right.replace("#1 [a]\n", "#1 t\n"), right.replace("\n #2", " #2"))

    def test_one_note_as_two(self):
        self.only(text("^30 6 1 1 0 0", ">a", "[0 1 t", "[0 1 u"), text("=1", "   1  a", "~", " #1 [a] t [a] u"),
                  text("=1", "   1  a", "~", " #1 [a] t", " #1 [a] u"), text("=1", "   1  a", "~", " #1 [a] t #1 [a] u"))


class Breakings(UnsetCase):
    def test_another_breaking_of_a_paragraph(self):
        work = text(SET, ">a b c")
        self.only(work, text("=1", "   1  a b c"), text("=1", "   1  a b", "   2 c"), text("=1", "   1  a", "   2 b c"),
                  text("=1", "   1  a", "   2 b", "   3 c"))

    def test_another_that_costs_the_same(self):
        # 0 and 2 left, or 2 and 0 left.
        work = text(SET, ">" + " ".join(["a" * 17, "x", "b" * 18, "c" * 5]))
        self.only(work, text("=1", "   1  " + "a" * 17 + " x", "   2 " + "b" * 18, "   3 ccccc"),
                  text("=1", "   1  " + "a" * 17, "   2 x " + "b" * 18, "   3 ccccc"))

    def test_another_that_costs_more(self):
        work = text(SET, ">" + " ".join(["a" * 15, "bbb", "c" * 11, "d" * 20, "e"]))
        self.only(work, text("=1", "   1  " + "a" * 15, "   2 bbb " + "c" * 11, "   3 " + "d" * 20, "   4 e"),
                  text("=1", "   1  " + "a" * 15 + " bbb", "   2 " + "c" * 11, "   3 " + "d" * 20, "   4 e"))

    def test_a_line_of_several_words_that_does_not_fit(self):
        work = text(SET, ">" + "a" * 19 + " b")
        self.only(work, text("=1", "   1  " + "a" * 19, "   2 b"), text("=1", "   1  " + "a" * 19 + " b"))

    def test_indents(self):
        work = text("^20 6 3 1 0 0", ">a", ">b")
        right = text("=1", "   1    a", "   2    b")
        self.only(work, right, right.replace("   b", "b"), right.replace("   b", " b"), right.replace("   b", "  b"),
                  right.replace("   b", "    b"), right.replace("   a", "a"), right.replace("   a", "  a"),
                  right.replace("   a", "    a"))

    def test_another_breaking_of_a_note(self):
        work = text("^20 12 1 1 0 0", ">a", "[0 1 t u")
        self.only(work, text("=1", "   1  a", "~", " #1 [a] t u"), text("=1", "   1  a", "~", " #1 [a] t", " u"),
                  text("=1", "   1  a", "~", " #1", " [a] t u"), text("=1", "   1  a", "~", " #1 [a]", " t u"))

    def test_another_of_a_note_that_costs_the_same(self):
        work = text("^20 12 1 1 0 0", ">a", "[0 1 " + " ".join(["t" * 11, "u", "v" * 18, "w" * 5]))
        self.only(work, text("=1", "   1  a", "~", " #1 [a] " + "t" * 11 + " u", " " + "v" * 18, " wwwww"),
                  text("=1", "   1  a", "~", " #1 [a] " + "t" * 11, " u " + "v" * 18, " wwwww"))

    def test_any_other_by_lot(self):
        # The same words, signs and entries in other lines, other foot lines, on other pages.
        source = random.Random(84)
        refused = 0
        for k in range(300):
            work = source.choice((oracle.random_work, oracle.random_heavy, oracle.random_anew))(source)
            right = oracle.printed(work)
            lot = oracle.lot_breaking(source)
            breakings = source.choice(((lot, lot), (lot, oracle.best_breaking), (oracle.best_breaking, lot)))
            pager = oracle.Pager(work, *breakings)
            shown = oracle.printed_plan(work, pager, source.choice(list(pager.plans()))[2])
            expected = [len(work.text())] + list(work.text()) if shown == right else [-6]
            self.assertEqual(unset(list(shown)), expected, shown.decode())
            refused += shown != right
        self.assertGreater(refused, 100)


class Pages(UnsetCase):
    def test_other_pages(self):
        work = text(SET, ">a", ">b")
        self.only(work, text("=1", "   1  a", "   2  b"), text("=1", "   1  a", "=2", "   2  b"),
                  text("=1", "=2", "   1  a", "   2  b"), text("=1", "   1  a", "   2  b", "=2"))

    def test_too_many_lines(self):
        right = text("=1", *["   %d  a" % k for k in range(1, 7)], "=2", "   7  a")
        self.only(text(SET, *[">a"] * 7), right, right.replace("=2\n", ""))

    def test_other_pages_that_cost_the_same(self):
        # 3, 4 costs 1 + 4; 2, 5 costs 4 + 1; 4, 3 costs 0 + 9.
        work = text(SET, *[">a"] * 8, "[0 1", entry(7, 4))
        bodies = []
        for count in (3, 2, 4):
            lines = ["   %d  a" % k for k in range(1, 9)]
            bodies.append(text("=1", *lines[:count], "~", " #1 [a]", "=2", *lines[count:7], "=3", lines[7], "~",
                               " #8 [a]", *[" " + WIDE] * 3))
        self.only(work, *bodies)

    def test_other_pages_by_lot(self):
        # Of all that cost like the best just the best, and of those that cost more none.
        source = random.Random(85)
        alike = 0
        for k in range(150):
            work = oracle.Work()
            work.settings = [20, 6, 1, 1, source.randrange(2), source.choice((0, 0, 1))]
            work.paragraphs = [["a"] if source.random() < 0.8 else ["a" * 18, "b"] for at in range(8)]
            for f in sorted(source.sample(range(8), source.randint(1, 4))):
                work.entries.append((f, 0, [WIDE] * source.randrange(4)))
            pager = oracle.Pager(work)
            plans = sorted(pager.plans())
            others = [plan for plan in plans[1:] if plan[0] == plans[0][0]]
            alike += len(others)
            for plan in others + plans[-3:]:
                expected = [len(work.text())] + list(work.text()) if plan == plans[0] else [-6]
                self.assertEqual(unset(list(oracle.printed_plan(work, pager, plan[2]))), expected)
        self.assertGreater(alike, 10)

    def test_foot_lines_on_other_pages(self):
        work = text(SET, ">a", ">b", entry(0, 6))
        right = text("=1", "   1  a", "~", " #1 [a]", *[" " + WIDE] * 3, "=2", "   2  b", "~", *[" " + WIDE] * 2)
        self.only(work, right,
                  text("=1", "   1  a", "~", " #1 [a]", *[" " + WIDE] * 2, "=2", "   2  b", "~", *[" " + WIDE] * 3),
                  text("=1", "   1  a", "~", " #1 [a]", *[" " + WIDE] * 5, "=2", "   2  b"),
                  text("=1", "   1  a", "~", " #1 [a]", *[" " + WIDE] * 3, "=2", "~", *[" " + WIDE] * 2, "=3", "   2  b"),
                  text("=1", "   1  a", "   2  b", "~", " #1 [a]", *[" " + WIDE] * 3, "=2", "~", *[" " + WIDE] * 2))

    def test_rules(self):
        work = text(SET, ">a", ">b", "[0 1")
        right = text("=1", "   1  a", "   2  b", "~", " #1 [a]")
        self.only(work, right, right.replace("~\n", ""), right.replace("~\n", "~\n~\n"), right.replace("~\n", "~"),
                  right.replace("~\n", "~ \n"), right.replace("~\n", " ~\n"), right + "~\n",
                  text("=1", "   1  a", "~", " #1 [a]", "   2  b"), text("=1", "~", " #1 [a]", "   1  a", "   2  b"))
        self.refuses(text(SET, "=1", "   1  a", "~"), text(SET, "=1", "   1  a", "~", ""))


class Keys(UnsetCase):
    def keys(self, words, f, m, right, *wrong):
        self.only(text("^200 9 1 1 0 0", ">" + words, f"[{f} {m} t"),
                  text("=1", "   1  " + words, "~", f" #1 {right} t"),
                  *[text("=1", "   1  " + words, "~", f" #1 {key} t") for key in wrong])

    def test_one_word(self):
        self.keys("a b", 0, 1, "[a]", "[a^1]", "[a~1~a]", "[a~0~a]", "[c]", "[]", "[a", "a]", "[ a]", "[a ]", "[[a]",
                  "[a]]", "[a][a]", "[aa]", "[a~]", "[a~~]", "[a~1]", "[a^]", "[a^0]", "[a^2]", "[a+]", "[|a]", "[a]x")

    def test_no_word(self):
        self.keys("a b", 0, 0, "[+a]", "[++a]", "[+a^1]", "[+a~0~a]", "[+a~1~a]", "[+a~2~b]", "[a+]", "[+ a]", "[+c]")

    def test_behind_all(self):
        self.keys("a b", 2, 0, "[+]", "[++]", "[+~2~]", "[+~2~b]", "[+^1]", "[+ ]", "[+", "[+]+")

    def test_behind_all_before_the_end(self):
        self.refuses(text(SET, "=1", "   1  a", "   2  b", "~", " #1 [+]"))
        lines = ["   %d  a" % k for k in range(1, 8)]
        self.only(text(SET, *[">a"] * 7, "[4 0"), text("=1", *lines[:4], "=2", *lines[4:], "~", " #5 [+a]"),
                  text("=1", *lines[:4], "~", " #4 [+]", "=2", *lines[4:]),
                  text("=1", *lines[:4], "=2", *lines[4:], "~", " #5 [+]"))

    def test_several_words(self):
        self.keys("a b c", 0, 2, "[a~2~b]", "[a~2~c]", "[a~3~b]", "[a~02~b]", "[a~2~]", "[a~2b]", "[a~2]", "[a~~b]",
                  "[a~4~c]", "[a~2~b~]", "[a~2~b^1]", "[a^1~2~b]", "[a~2~bb]", "[a~8193~b]", "[~2~b]", "[a~2~b|]",
                  "[a~" + "9" * 5000 + "~b]", "[a~2~b", "[a~2~ b]", "[a~2+~b]")

    def test_more_than_once(self):
        self.keys("a b a a", 2, 1, "[a^2]", "[a]", "[a^0]", "[a^4]", "[a^02]", "[a^]", "[a^^2]", "[a2]", "[a^2^2]",
                  "[^2]", "[a^2~1~a]", "[a^" + "9" * 5000 + "]", "[a^2+]", "[a^8193]")
        self.keys("a b a a", 2, 2, "[a^2~2~a]", "[a~2~a]", "[a~2~a^3]", "[a~2~a^2]", "[a^2~2~a^3]", "[a~2^2~a]")
        self.keys("a b a a", 0, 0, "[+a^1]", "[+a]", "[a+^1]", "[+a^0]", "[+a^4]")

    def test_a_word_of_another_line(self):
        self.refuses(text(SET, "=1", "   1  a", "   2  b", "~", " #1 [b]"),
                     text(SET, "=1", "   1  a", "   2  b", "~", " #2 [a]"))

    def test_letters_in_other_lines_are_not_counted(self):
        work = text(SET, ">a", ">a", "[1 1")
        self.only(work, text("=1", "   1  a", "   2  a", "~", " #2 [a]"), text("=1", "   1  a", "   2  a", "~", " #2 [a^2]"),
                  text("=1", "   1  a", "   2  a", "~", " #2 [a^1]"))

    def test_falling(self):
        self.refuses(text(SET, "=1", "   1  a b", "~", " #1 [b] [a]"), text(SET, "=1", "   1  a b", "~", " #1 [+] [b]"),
                     text(SET, "=1", "   1  a a", "~", " #1 [a^2] [a^1]"))


class Signs(UnsetCase):
    def signs(self, right, *wrong):
        shown = text(SET, "=1", "   1  " + right)
        self.assertEqual(unset(data(shown))[:1], [len(unset(data(shown))) - 1])
        self.assertNotEqual(unset(data(shown)), [-6])
        self.refuses(*[text(SET, "=1", "   1  " + one) for one in wrong])

    def test_strokes(self):
        self.signs("|a b {x}", "a b {x}", "|a |b {x}", "||a b {x}", "|a b {x|y}", "|a b", "|a b {}", "a| b {x}",
                   "| a b {x}", "|a b {x|}", "|a b {|x}", "|a b| {x}", "a b {}", "a b | {x}", "|a b {x||y}")
        self.signs("||a |b {x|y|z}", "||a |b {x|y}", "||a |b {x|y|z|w}", "||a b {x|y|z}", "||a |b {x y z}")

    def test_braces(self):
        self.signs("|a {x}", "|a{x}", "|a  {x}", "|a {x} ", "|a {x", "|a x}", "|a {x}}", "|a {{x}", "|a {x}{x}",
                   "|a {x} {x}", "{x} |a", "|a { x}", "|a {x }", "|a [x]", "|a {x} b", "|{x}", "|a {x}\x00")

    def test_texts(self):
        self.signs("|a {" + " ".join(["x" * 16] * 4) + "}", "|a {" + "x" * 17 + "}", "|a {a b c d e}", "|a {x  y}",
                   "|a {x#}", "|a {[x}", "|a {x{y}", "|a {x=}", "|a {x/}", '|a {"}', "|a {+}", "|a {~}", "|a {<}",
                   "|a {x\x7f}", "|a {\u0080}", "|a {\uffff}")
        self.signs("|a {^^ x^ ^}", "|a {^^  ^}")

    def test_words(self):
        self.signs("a" * 64, "a" * 65, "a  b", "a b ", "a\tb", "a#", "=", "a=b", "a>b", "~", "\u0085",
                   "a\ufffe", "")

    def test_too_many_strokes_of_one_word(self):
        # 4,096 signs are the most.
        for many, refused in ((4096, False), (4097, True)):
            answer = unset(data(text(SET, "=1", "   1  " + "|" * many + "a {" + "|".join("x" * many) + "}")))
            self.assertEqual(answer == [-6], refused)


class Tokens(UnsetCase):
    def test_tokens(self):
        for token in ("t", "]", "a[", "a#", "t" * 64, "+", "~", "=1", "{x}", "|a", "\u00e9" * 64):
            rows = [f" #1 [a] {token}"] if len(token) < 14 else [" #1 [a]", " " + token]
            self.gives(text(SET, "=1", "   1  a", "~", *rows), text(SET, ">a", "[0 1 " + token))
        for token in ("#", "#t", "[", "[t", "t" * 65, "\x7f", "\x01", "\u0080", "\ufffe", "a\tb", "", " "):
            rows = [f" #1 [a] {token}"] if len(token) < 14 else [" #1 [a]", " " + token]
            self.refuses(text(SET, "=1", "   1  a", "~", *rows))

    def test_too_many(self):
        for many, refused in ((1024, False), (1025, True)):
            work = text("^240 240 1 1 0 0", ">a", "[0 1" + " t" * 1024)
            shown = bytes(pages(data(work))[1:]).decode()
            if many > 1024:
                shown = shown[:-1] + " t\n"
            self.assertEqual(unset(data(shown)) == [-6], refused)

    def test_blanks(self):
        right = text("=1", "   1  a", "~", " #1 [a] t")
        self.only(text(SET, ">a", "[0 1 t"), right, right.replace(" t", "  t"), right.replace(" t", " t "),
                  right.replace(" #1", "#1"), right.replace(" #1", "  #1"), right.replace("#1 ", "#1"),
                  right.replace("[a] ", "[a]"), right.replace(" t", "\tt"), right + " \n", right + "\n")

    def test_a_token_ahead_of_all_keys(self):
        self.refuses(text(SET, "=1", "   1  a", "~", " #1 t"), text(SET, "=1", "   1  a", "~", " t"),
                     text(SET, "=1", "   1  a", "~", " #1 t [a]"), text(SET, "=1", "   1  a", "~", " #1"))


class OtherBytes(UnsetCase):
    """A byte changed, left out or put in: refused, wherever that is no other work's print."""

    WORKS = (text("^20 6 2 2 0 3", "(97 97 2", ">a b a", ">c", "{0 x", "{0 y^ z", "{2 x", "[0 1 t", "[0 2 u", "[2 0",
                  "[4 0 v"),
             text("^20 6 1 1 1 0", ">a", ">\u00e9 b", entry(0, 6), "[1 2 \u4e2d"),
             text("^20 6 1 5 0 0", ">" + "a" * 17 + " x " + "b" * 18 + " c"))

    def check(self, shown):
        answer = unset(list(shown))
        if answer == [-6]:
            try:
                found = oracle.Printed(shown).work.text()
            except (ValueError, IndexError, AssertionError, UnboundLocalError):
                return 1
            self.assertNotEqual(bytes(pages(list(found))[1:]), shown)
            return 1
        self.assertEqual(answer[0], len(answer) - 1)
        self.assertEqual(judge(answer[1:]), [0])
        self.assertEqual(bytes(pages(answer[1:])[1:]), shown)
        return 0

    def test_one_byte(self):
        for work in self.WORKS:
            shown = bytes(pages(data(work))[1:])
            refused = 0
            for at in range(len(shown) + 1):
                refused += self.check(shown[:at] + shown[at + 1:])
                for byte in SIGNS:
                    refused += self.check(shown[:at] + bytes([byte]) + shown[at:])
                    refused += self.check(shown[:at] + bytes([byte]) + shown[at + 1:])
            self.assertGreater(refused, len(shown) * len(SIGNS))

    def test_every_byte_in_some_places(self):
        shown = bytes(pages(data(self.WORKS[0]))[1:])
        for at in range(0, len(shown), 7):
            for byte in range(256):
                self.check(shown[:at] + bytes([byte]) + shown[at + 1:])

    def test_every_beginning(self):
        for work in self.WORKS:
            shown = bytes(pages(data(work))[1:])
            for size in range(len(shown)):
                self.check(shown[:size])
                if shown[:size][-1:] != b"\n":
                    self.assertEqual(unset(list(shown[:size])), [-6])

    def test_last_line_without_its_end(self):
        for work in self.WORKS:
            shown = bytes(pages(data(work))[1:])
            self.assertEqual(unset(list(shown[:-1])), [-6])
        self.refuses(SET, text(SET) + "=1", text(SET, "=1") + "   1  a", text(SET, "=1", "   1  a", "~") + " #1 [a]")

    def test_bytes_behind(self):
        for work in self.WORKS:
            shown = bytes(pages(data(work))[1:])
            for byte in range(256):
                self.assertEqual(unset(list(shown) + [byte]), [-6])

    def test_rows_left_out_put_twice_and_turned(self):
        source = random.Random(86)
        for k in range(300):
            work = source.choice((oracle.random_work, oracle.random_heavy))(source)
            rows = oracle.printed(work).splitlines(keepends=True)
            at = source.randrange(len(rows))
            to = source.randrange(len(rows))
            self.check(b"".join(rows[:at] + rows[at + 1:]))
            self.check(b"".join(rows[:at] + rows[at:at + 1] + rows[at:]))
            rows[at], rows[to] = rows[to], rows[at]
            self.check(b"".join(rows))

    def test_spoilt_by_lot(self):
        source = random.Random(87)
        for k in range(1500):
            work = source.choice((oracle.random_work, oracle.random_heavy))(source)
            shown = bytes(pages(list(work.text()))[1:])
            self.check(oracle.spoiled(source, shown))

    def test_against_trying_everything(self):
        source = random.Random(88)
        for k in range(300):
            shown = oracle.spoiled(source, oracle.printed(oracle.random_work(source)))
            expected = oracle.unprinted(shown)
            answer = unset(list(shown))
            self.assertEqual(answer, [-6] if expected is None else [len(expected)] + list(expected))

    def test_bytes_by_lot(self):
        source = random.Random(89)
        for k in range(500):
            self.check(b"^20 6 1 1 0 0\n=1\n   1  a" + bytes(source.choice(SIGNS) for at in range(source.randrange(9))))
            self.check(bytes(source.randrange(256) for at in range(source.randrange(30))))


class Bounds(UnsetCase):
    def test_too_long(self):
        self.assertEqual(unset([94] * 16777217), [-2])
        self.assertEqual(unset([94] * 16777216), [-6])

    def test_text_too_long(self):
        # It is the text's size that counts, not the printed pages'.
        work = text(SET, ">a b", "[0 1 t")
        shown = data(bytes(pages(data(work))[1:]).decode())
        self.assertGreater(len(shown), len(work))
        for most, expected in ((len(work), [len(work)] + data(work)), (len(work) - 1, [-6])):
            with unittest.mock.patch("vellumpages.setting.MOST_TEXT_BYTES", most):
                self.assertEqual(unset(shown), expected)

    def test_too_many_words(self):
        # 8,192 words and 4,096 paragraphs are the most.
        for words, refused in ((8192, False), (8193, True)):
            lines = []
            for k in range(0, words, 120):
                count = min(120, words - k)
                lines.append((" " if k == 0 else "") + " ".join(["a"] * count))
            rows = ["=1"] + ["%4d %s" % (k + 1, row) for k, row in enumerate(lines)]
            answer = unset(data(text("^240 240 1 1 0 0", "(98 98 1", *rows)))
            self.assertEqual(answer == [-6], refused)
        for count, refused in ((4096, False), (4097, True)):
            rows = []
            for k in range(count):
                if k % 240 == 0:
                    rows.append(f"={k // 240 + 1}")
                rows.append("%4d  a" % (k + 1))
            answer = unset(data(text("^20 240 1 1 0 0", *rows)))
            self.assertEqual(answer == [-6], refused)


class Calls(UnsetCase):
    def test_nothing_is_kept_or_changed(self):
        first = data(text(SET, "=1", "   1  |a b {x}", "~", " #1 [b] t"))
        other = data(text("^30 7 2 2 1 9", "=1", "       c d", "   2   e"))
        copies = [list(first), list(other)]
        answers = [unset(first), unset(other), unset([]), unset(first[:-1])]
        self.assertEqual([answer[0] for answer in answers], [31, 22, -6, -6])
        for k in range(3):
            self.assertEqual([unset(first), unset(other), unset([]), unset(first[:-1])], answers)
            unset(first).append(k)
            self.assertEqual([first, other], copies)

    def test_as_much_as_can_be_handed_in(self):
        many = 460
        for work in (text("^20 240 1 1 1 0", *[">a"] * 1010),
                     text("^240 240 1 1 1 0", "(97 97 0", ">" + "a " * 4000 + "a"),
                     text("^240 240 1 1 1 0", "(97 97 0", ">b", *["[0 0" + " a" * 1000] * 4),
                     text("^20 6 1 1 1 0", ">a b", *["[0 2"] * 890),
                     text("^20 240 1 1 1 0", "(48 57 2", *[">a"] * many, *[f"[{k} 1" for k in range(many)])):
            shown = pages(data(work))[1:]
            self.assertLessEqual(len(shown), 8191)
            begun = time.monotonic()
            self.assertEqual(bytes(unset(shown)[1:]).decode(), work)
            self.assertLess(time.monotonic() - begun, 60)


if __name__ == "__main__":
    unittest.main()
