"""What the document promises over the whole program, for works, tables and lists made by lot."""

import inspect
import itertools
import random
import unittest

from tests import lists, oracle, tables
from tests.oracle import text
from vellumpages import setting
from vellumpages.setting import columns, concord, cost, judge, line, page, pages, uncolumns, unset

OF_WORKS = (judge, pages, lambda t: line(0, t), lambda t: page(1, t), cost)
OF_ALL = OF_WORKS + (unset, columns, uncolumns, concord)
KINDS = (oracle.random_work, oracle.random_heavy, oracle.random_anew)


def some_work(source):
    return source.choice(KINDS)(source)


def counted(found):
    return [len(found)] + list(found)


def all_lines(t):
    found = []
    while line(len(found), t) != [-4]:
        found.append(line(len(found), t))
    return found


def all_pages(t):
    return [page(p, t) for p in range(1, cost(t)[0] + 1)]


class Main(unittest.TestCase):
    """The pages alone give the work back, and none set otherwise would cost less; or it has one fault."""

    def check(self, t):
        if judge(list(t)) == [0]:
            shown = pages(list(t))
            self.assertEqual(shown[0], len(shown) - 1)
            self.assertEqual(unset(shown[1:]), counted(t))
            return 1
        refusal, fault = judge(list(t))
        self.assertEqual(refusal, -6)
        self.assertTrue(0 <= fault <= len(t))
        for size in range(len(t) + 1):
            told = judge(list(t[:size]))
            self.assertIn(told, [[0], [-6, size]] if size <= fault else [[-6, fault]], t)
        for call in OF_WORKS[1:]:
            self.assertEqual(call(list(t)), [-6])
        return 0

    def test_works(self):
        source = random.Random(130)
        for k in range(300):
            self.assertEqual(self.check(some_work(source).text()), 1)
        for k in range(20):
            self.assertEqual(self.check(oracle.random_tall(source).text()), 1)
            self.assertEqual(self.check(oracle.grown(source, 2500).text()), 1)

    def test_others(self):
        source = random.Random(131)
        held = 0
        for k in range(700):
            held += self.check(oracle.spoiled(source, some_work(source).text()))
        self.assertTrue(50 < held < 650, held)

    def test_every_few_bytes(self):
        for size in range(3):
            for t in itertools.product(b"^2 0(>{[a\n\xc3\xff", repeat=size):
                self.assertEqual(self.check(bytes(t)), 0)
                self.check(text("^20 6 1 1 0 0").encode() + bytes(t))
                self.check(text("^20 6 1 1 0 0", ">a").encode() + bytes(t))

    def test_none_set_otherwise_costs_less(self):
        source = random.Random(132)
        for k in range(150):
            work = some_work(source)
            width, indent = work.settings[0], work.settings[2]
            told = cost(list(work.text()))
            least = 0
            for takes in oracle.takes_of_paragraphs(work):
                breakings = oracle.all_breakings(takes, (width - indent, width))
                least += min(sum(line_cost for start, end, line_cost in breaking) for breaking in breakings)
            self.assertEqual(told[1], least)
            self.assertEqual(told[2], min(total for total, counts, plan in oracle.Pager(work).plans()))


class OneText(unittest.TestCase):
    """A work has one text, a text one work; what prints alike is one."""

    def test_works(self):
        # Texts that differ by a few bytes, and are works' texts both, print to different pages.
        source = random.Random(133)
        pairs = 0
        for k in range(500):
            t = some_work(source).text()
            other = oracle.spoiled(source, t)
            if other != t and judge(list(other)) == [0]:
                self.assertNotEqual(pages(list(other)), pages(list(t)))
                pairs += 1
        self.assertGreater(pairs, 50)

    def test_tables(self):
        source = random.Random(134)
        pairs = 0
        for k in range(700):
            t = tables.random_table(source).text()
            other = tables.spoiled(source, t)
            if other != t and columns(list(other)) != [-6]:
                self.assertNotEqual(columns(list(other)), columns(list(t)))
                pairs += 1
        self.assertGreater(pairs, 50)


class Pages(unittest.TestCase):
    def works(self, seed, count):
        source = random.Random(seed)
        for k in range(count):
            yield some_work(source)
        for k in range(10):
            yield oracle.random_tall(source)
        for k in range(3):
            yield oracle.grown(source, 1500)

    def shown_pages(self, work):
        """Of each page the lines and the foot lines, as they are printed."""
        found = []
        for row in bytes(pages(list(work.text()))[1:]).decode().split("\n")[1 + len(work.widths):-1]:
            if row.startswith("="):
                found.append([[], []])
                foot = 0
            elif row == "~":
                foot = 1
            else:
                found[-1][foot].append(row)
        return found

    def test_no_page_has_more_than_its_lines(self):
        for work in self.works(135, 150):
            for lines, foot in self.shown_pages(work):
                self.assertLessEqual(len(lines) + len(foot) + bool(foot), work.settings[1])
            for first, count, came, own, rest, kind, costs in all_pages(list(work.text())):
                self.assertLessEqual(count + came + own + bool(came + own), work.settings[1])

    def test_a_line_of_more_than_its_room_is_one_word(self):
        many = 0
        for work in self.works(136, 150):
            width, indent = work.settings[0], work.settings[2]
            firsts = [0]
            for paragraph in work.paragraphs:
                firsts.append(firsts[-1] + len(paragraph))
            for told in all_lines(list(work.text())):
                room = width - indent * (told[2] in firsts)
                self.assertTrue(told[4] <= room or told[3] == 1, work.text().decode())
                many += told[4] > room
        self.assertGreater(many, 20)

    def test_each_note_begins_on_its_lines_page(self):
        many = 0
        for work in self.works(137, 150):
            told = all_lines(list(work.text()))
            expected = [[] for shown in self.shown_pages(work)]
            for numbers in told:
                if numbers[5] > 0:
                    expected[numbers[0] - 1].append(f"#{numbers[1]}")
            for (lines, foot), begun in zip(self.shown_pages(work), expected):
                things = " ".join(foot).split()
                self.assertEqual([thing for thing in things if thing.startswith("#")], begun)
                many += len(begun)
            last = len(told) - 1
            noted = [k for k, numbers in enumerate(told)
                     if any(numbers[2] <= f < numbers[2] + numbers[3] or (f == len(work.words) and k == last)
                            for f, m, tokens in work.entries)]
            self.assertEqual([k for k, numbers in enumerate(told) if numbers[5] > 0], noted)
        self.assertGreater(many, 150)

    def test_foot_lines_go_on_just_from_a_page_of_one_line_or_none(self):
        many = 0
        for work in self.works(138, 150):
            told = all_pages(list(work.text()))
            for first, count, came, own, rest, kind, costs in told:
                self.assertEqual(rest > 0 and count > 1, False)
                self.assertEqual(rest > 0 and kind == 0, False)
                many += rest > 0
            for before, behind in zip(told, told[1:]):
                self.assertEqual(before[4] > 0, behind[2] > 0)
        self.assertGreater(many, 50)

    def test_keys_tell(self):
        many = 0
        for work in self.works(139, 250):
            keys = []
            for lines, foot in self.shown_pages(work):
                for thing in " ".join(foot).split():
                    if thing.startswith("#"):
                        keys.append([])
                    elif thing.startswith("["):
                        keys[-1].append(thing)
            entries = iter(work.entries)
            for of_line in keys:
                said = {}
                for key, (f, m, tokens) in zip(of_line, entries):
                    self.assertEqual(said.setdefault(key, (f, m)), (f, m))
                    many += 1
                self.assertEqual(len(set(said.values())), len(said))
            self.assertEqual(list(entries), [])
        self.assertGreater(many, 200)


class Tables(unittest.TestCase):
    def test_columns_give_their_rows_back(self):
        source = random.Random(140)
        for k in range(300):
            t = tables.random_table(source).text()
            self.assertEqual(uncolumns(columns(list(t))[1:]), counted(t))

    def test_a_table_or_none(self):
        source = random.Random(141)
        held = 0
        for k in range(700):
            t = tables.spoiled(source, tables.random_table(source).text())
            shown = columns(list(t))
            if shown != [-6]:
                self.assertEqual(uncolumns(shown[1:]), counted(t))
                held += 1
        self.assertTrue(50 < held < 650, held)

    def test_no_page_has_more_than_its_lines(self):
        source = random.Random(142)
        for k in range(200):
            table = tables.random_table(source)
            shown = bytes(columns(list(table.text()))[1:]).decode().split("\n")[1:-1]
            counts = []
            for row in shown:
                if row.startswith("="):
                    counts.append(0)
                else:
                    counts[-1] += 1
            self.assertTrue(all(1 <= count <= table.height for count in counts))


class Lists(unittest.TestCase):
    def test_each_counted_word_stands_once(self):
        source = random.Random(143)
        for k in range(300):
            listed = lists.random_list(source, 50)
            shown = bytes(concord(list(listed.text()))[1:])
            told = lists.places(shown)
            expected = [(number, kind, word) for number, (word, kind) in enumerate(listed.words) if kind is not None]
            self.assertEqual(sorted((number, kind, word) for kind, number, word in told), expected)


class Calls(unittest.TestCase):
    def test_interface(self):
        for name in ("judge", "pages", "cost", "unset", "columns", "uncolumns", "concord"):
            self.assertEqual(list(inspect.signature(getattr(setting, name)).parameters), ["t"])
        self.assertEqual(list(inspect.signature(line).parameters), ["k", "t"])
        self.assertEqual(list(inspect.signature(page).parameters), ["p", "t"])

    def test_each_text_is_of_one_kind(self):
        # Works, tables and lists have heads of six, three and two numbers.
        source = random.Random(144)
        for k in range(50):
            work, table, listed = some_work(source).text(), tables.random_table(source).text(), lists.random_list(source).text()
            for call in (columns, concord):
                self.assertEqual(call(list(work)), [-6])
            for call in OF_WORKS:
                self.assertEqual(call(list(table))[0], -6)
                self.assertEqual(call(list(listed))[0], -6)
            self.assertEqual(concord(list(table)), [-6])
            self.assertEqual(columns(list(listed)), [-6])
            self.assertEqual(uncolumns(pages(list(work))[1:]), [-6])
            self.assertEqual(unset(columns(list(table))[1:]), [-6])

    def test_nothing_is_kept_or_changed(self):
        source = random.Random(145)
        handed = [[]]
        for k in range(6):
            work, table, listed = some_work(source).text(), tables.random_table(source).text(), lists.random_list(source).text()
            handed += [list(work), list(table), list(listed), pages(list(work))[1:], columns(list(table))[1:]]
            handed += [list(work[:-1]), list(table[:-1]), list(listed[:-1])]
        copies = [list(t) for t in handed]
        answers = [[call(t) for call in OF_ALL] for t in handed]
        pairs = list(itertools.product(range(len(handed)), range(len(OF_ALL))))
        source.shuffle(pairs)
        for at, which in pairs:
            answer = OF_ALL[which](handed[at])
            self.assertEqual(answer, answers[at][which])
            self.assertTrue(type(answer) is list and all(type(number) is int for number in answer))
            answer.append(0)
        self.assertEqual(handed, copies)

    def test_refusals_stand_alone(self):
        for t in ([], [0], [94], [255] * 50, list(b"\n"), list(b"^20 6 1 1 0 0"), list(b"^8 6 2"), list(b"^1 1")):
            for call in OF_ALL[1:]:
                self.assertEqual(call(t), [-6])
            self.assertEqual(len(judge(t)), 2)

    def test_words_alone_in_a_thousand_lines(self):
        # As long as what is handed in may be, whatever goes through it goes by loops.
        self.assertEqual(cost(list(text("^20 6 1 1 0 0", *[">a"] * 2700).encode()))[0], 450)
        for t in (text("^8 6 2", *["=a|"] * 2000), text("^8 6 2", "=" + "aaaaaaaa " * 900 + "b|")):
            self.assertEqual(uncolumns(columns(list(t.encode()))[1:]), counted(t.encode()))
        self.assertEqual(concord(list(text("^8 8", *[">a a"] * 1600).encode()))[0] > 1600 * 30, True)


if __name__ == "__main__":
    unittest.main()
