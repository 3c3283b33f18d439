import random
import unittest

from tests import oracle
from vellumpages.setting import judge

SET = "^20 6 1 1 0 0\n"
WHOLE = ("^40 12 2 5 1 100\n(33 40 0\n(41 1114111 2\n>Alpha \u00e9\u4e2d\U0001f600 c\n>d\n"
         "{0 a^ b c d\n{3 ^\n[0 0\n[1 3 ~x |]\n[4 0 end\n")


def data(text):
    return list(text if isinstance(text, bytes) else text.encode())


class JudgeCase(unittest.TestCase):
    def work(self, text):
        self.assertEqual(judge(data(text)), [0], text)

    def fault(self, good, bad=""):
        """good is the longest beginning; bad goes on so that no work's text does."""
        self.assertEqual(judge(data(good) + data(bad)), [-6, len(data(good))], (good, bad))


class Texts(JudgeCase):
    def test_empty_text(self):
        self.fault("")

    def test_settings_alone(self):
        self.work(SET)

    def test_other_first_bytes(self):
        for bad in ("\n", " ^", ">a\n", "x", b"\x00", b"\xff"):
            self.fault("", bad)

    def test_every_beginning_of_a_whole_text(self):
        whole = data(WHOLE)
        self.work(WHOLE)
        ends = [k + 1 for k, byte in enumerate(whole) if byte == 10]
        for size in range(len(whole) + 1):
            expected = [0] if size in ends else [-6, size]
            self.assertEqual(judge(whole[:size]), expected, size)

    def test_bytes_behind_the_end(self):
        for bad in ("\n", " ", "x", "^", "^20 6 1 1 0 0\n", ">a\n", "{3 a\n", "(50 50 1\n", b"\x00", b"\xc3", b"\xff"):
            self.fault(WHOLE, bad)

    def test_last_line_without_its_end(self):
        self.fault(WHOLE[:-1])
        self.fault(SET[:-1])
        self.fault(SET + ">a")

    def test_lines_end_with_0ah_alone(self):
        self.fault(SET[:-1], "\r\n")
        self.fault(SET + ">a", "\r\n")
        self.fault(SET + ">a", "\t\n")
        self.fault(SET + ">a", b"\x00\n")

    def test_order_of_lines(self):
        base = SET + ">a\n"
        self.fault(base, "(33 33 1\n")
        self.fault(base + "{0 a\n", ">b\n")
        self.fault(base + "{0 a\n", "(33 33 1\n")
        self.fault(base + "[0 0\n", "{0 a\n")
        self.fault(base + "[0 0\n", ">b\n")
        self.fault(base, "^20 6 1 1 0 0\n")
        self.fault(base, "=1\n")


class Settings(JudgeCase):
    bounds = [(20, 240), (6, 240), (1, 16), (1, 100), (0, 1), (0, 10000)]

    def around(self, at):
        usual = ["20", "6", "1", "1", "0", "0"]
        before = "^" + "".join(number + " " for number in usual[:at])
        behind = "".join(" " + number for number in usual[at + 1:]) + "\n"
        return before, behind

    def test_at_the_bounds(self):
        for at, bounds in enumerate(self.bounds):
            before, behind = self.around(at)
            for number in bounds:
                self.work(before + str(number) + behind)

    def test_each_number_up_to_300(self):
        for at, (low, high) in enumerate(self.bounds):
            before, behind = self.around(at)
            for number in range(300):
                text = before + str(number) + behind
                answer = judge(data(text))
                self.assertEqual(answer == [0], low <= number <= high, text)

    def test_below(self):
        before, behind = self.around(0)
        self.fault("^19", behind)
        self.fault("^1", behind)
        self.fault("^", "0" + behind)
        before, behind = self.around(1)
        self.fault(before + "5", behind)
        self.fault(before + "1", behind)
        self.fault(before, "0" + behind)
        for at in (2, 3):
            before, behind = self.around(at)
            self.fault(before, "0" + behind)

    def test_above(self):
        for at, good, bad in ((0, "24", "1"), (1, "24", "1"), (2, "1", "7"), (3, "10", "1"), (5, "1000", "1"),
                              (0, "25", "0"), (1, "25", "0"), (2, "2", "0"), (3, "11", "0"), (4, "1", "0"),
                              (5, "1001", "0"), (5, "10000", "0")):
            before, behind = self.around(at)
            self.fault(before + good, bad + behind)
        before, behind = self.around(4)
        self.fault(before, "2" + behind)

    def test_nought_in_front(self):
        for at, (low, high) in enumerate(self.bounds):
            before, behind = self.around(at)
            if low == 0:
                self.fault(before + "0", "0" + behind)
                self.fault(before + "0", "1" + behind)
            else:
                self.fault(before, "0" + str(high) + behind)

    def test_how_many(self):
        self.fault("^20 6 1 1 0", "\n")
        self.fault("^20 6 1 1 0 0", " 0\n")
        self.fault("^20 6 1 1 0 0", " \n")

    def test_blanks(self):
        self.fault("^", " 20 6 1 1 0 0\n")
        self.fault("^20 ", " 6 1 1 0 0\n")
        self.fault("^20", "\t6 1 1 0 0\n")
        self.fault("^20", ",6 1 1 0 0\n")
        self.fault("^", "-1 6 1 1 0 0\n")
        self.fault("^", "+20 6 1 1 0 0\n")
        self.fault("^", "\n")
        self.fault("^2", "/ 6 1 1 0 0\n")
        self.fault("^2", ": 6 1 1 0 0\n")
        self.fault("^1", ": 6 1 1 0 0\n")


class Widths(JudgeCase):
    def test_at_the_bounds(self):
        self.work(SET + "(33 33 0\n")
        self.work(SET + "(33 1114111 2\n")
        self.work(SET + "(1114111 1114111 1\n")

    def test_outside_the_bounds(self):
        self.fault(SET + "(32", " 40 1\n")
        self.fault(SET + "(", "0 40 1\n")
        self.fault(SET + "(3", " 40 1\n")
        self.fault(SET + "(111411", "2 1114112 1\n")
        self.fault(SET + "(33 111411", "2 1\n")
        self.fault(SET + "(1114111", "0 1\n")
        self.fault(SET + "(33 33 ", "3\n")
        self.fault(SET + "(33 33 0", "0\n")

    def test_nought_in_front(self):
        self.fault(SET + "(", "033 33 1\n")
        self.fault(SET + "(33 ", "033 1\n")
        self.fault(SET + "(33 33 0", "1\n")

    def test_lo_above_hi(self):
        self.work(SET + "(50 50 1\n")
        self.fault(SET + "(50 49", " 1\n")
        self.fault(SET + "(1114111 1", " 1\n")
        self.fault(SET + "(1114111 ", "2 1\n")

    def test_touching_and_in_order(self):
        self.work(SET + "(33 40 1\n(41 41 0\n(43 50 2\n")

    def test_out_of_order(self):
        self.fault(SET + "(40 50 1\n(50", " 60 1\n")
        self.fault(SET + "(40 50 1\n(39", " 39 1\n")
        self.fault(SET + "(40 50 1\n(45", " 60 1\n")
        self.fault(SET + "(900000 999999 1\n(", "9 1 1\n")
        self.fault(SET + "(900000 999998 1\n(99999", "8 1 1\n")

    def test_none_behind_the_last_character(self):
        self.fault(SET + "(33 1114111 1\n", "(")
        self.work(SET + "(33 1114110 1\n(1114111 1114111 0\n")

    def test_how_many_rows(self):
        rows = [f"({k} {k} 2\n" for k in range(33, 98)]
        self.work(SET + "".join(rows[:64]) + ">a\n")
        self.fault(SET + "".join(rows[:64]), rows[64])

    def test_how_many_numbers(self):
        self.fault(SET + "(33 33", "\n")
        self.fault(SET + "(33 33 1", " 1\n")
        self.fault(SET + "(", " 33 33 1\n")


class Characters(JudgeCase):
    def test_sizes(self):
        for char in ("!", "~", "a", "\u00a0", "\u07ff", "\u0800", "\ufffd", "\U00010000", "\U0010fffd"):
            if char not in oracle.MARKS:
                self.work(SET + ">" + char + "\n")

    def test_every_character_of_the_first_planes(self):
        for number in list(range(0x300)) + list(range(0xD700, 0xD800)) + list(range(0xE000, 0x10300)):
            text = SET.encode() + b">" + chr(number).encode() + b"\n"
            self.assertEqual(judge(list(text)) == [0], oracle.is_letter(chr(number)), number)

    def test_low_16_bits(self):
        for plane in range(17):
            for low in (0xFFFE, 0xFFFF):
                raw = chr(plane * 0x10000 + low).encode()
                self.fault(SET.encode() + b">" + raw[:-1], raw[-1:] + b"\n")
            self.work(SET + ">" + chr(plane * 0x10000 + 0xFFFD) + "\n")

    def test_from_127_to_159(self):
        self.fault(SET + ">", b"\x7f\n")
        for number in range(128, 160):
            raw = chr(number).encode()
            self.fault(SET.encode() + b">\xc2", raw[1:] + b"\n")
        self.work(SET + ">\u00a0\n")

    def test_marks(self):
        for mark in oracle.MARKS:
            self.fault(SET + ">", mark + "\n")
            self.fault(SET + ">a", mark + "\n")
            if mark != "^":
                self.fault(SET + ">a\n{0 ", mark + "\n")
            if mark not in "[#":
                self.work(SET + ">a\n[0 0 " + mark + "\n")
            self.work(SET + ">a\n[0 0 a" + mark + "\n")

    def test_too_long(self):
        for good, bad in ((b"", b"\xc0\xaf"), (b"", b"\xc1\xbf"), (b"\xe0", b"\x9f\xbf"), (b"\xf0", b"\x8f\xbf\xbf")):
            self.fault(SET.encode() + b">" + good, bad + b"\n")
        self.work(SET.encode() + b">\xe0\xa0\x80\xf0\x90\x80\x80\n")

    def test_halves_of_pairs(self):
        self.fault(SET.encode() + b">\xed", b"\xa0\x80\n")
        self.fault(SET.encode() + b">\xed", b"\xbf\xbf\n")
        self.work(SET.encode() + b">\xed\x9f\xbf\xee\x80\x80\n")

    def test_above_10ffff(self):
        self.fault(SET.encode() + b">\xf4", b"\x90\x80\x80\n")
        for lead in range(0xF5, 0x100):
            self.fault(SET.encode() + b">", bytes([lead]) + b"\x80\x80\x80\n")
        self.work(SET.encode() + b">\xf4\x8f\xbf\xbd\n")

    def test_broken_off(self):
        for char in ("\u00e9", "\u4e2d", "\U0001f600"):
            raw = char.encode()
            for size in range(1, len(raw)):
                for bad in (b"", b"\n", b" ", b"a", b"\x7f", b"\xc3", b"\xff"):
                    self.fault(SET.encode() + b">a" + raw[:size], bad)

    def test_every_two_bytes(self):
        begun = {}
        for number in range(33, 0x110000):
            if not 0xD800 <= number < 0xE000 and oracle.is_letter(chr(number)):
                raw = chr(number).encode()
                for size in range(1, len(raw) + 1):
                    begun[raw[:size]] = True
        before = SET.encode() + b">"
        for lead in range(0x80, 0x100):
            for byte in range(0x100):
                raw = bytes([lead, byte])
                good = max(size for size in range(3) if size == 0 or raw[:size] in begun)
                self.assertEqual(judge(list(before + raw)), [-6, len(before) + good], raw)
        for raw in [raw for raw in begun if len(raw) in (2, 3) and raw[0] >= (0xE0, 0xF0)[len(raw) - 2]]:
            for byte in (0x7F, 0x80, 0xBD, 0xBE, 0xBF, 0xC0):
                good = len(raw) + (raw + bytes([byte]) in begun)
                self.assertEqual(judge(list(before + raw) + [byte]), [-6, len(before) + good], (raw, byte))

    def test_alone_behind(self):
        for byte in range(0x80, 0xC0):
            self.fault(SET + ">a", bytes([byte]))


class Words(JudgeCase):
    def test_lengths(self):
        for char in ("a", "\u00e9", "\u4e2d", "\U0001f600"):
            self.work(SET + ">" + char * 64 + " " + char + "\n")
            self.fault(SET + ">" + char * 64, char + "\n")

    def test_paragraph_without_a_word(self):
        self.fault(SET + ">", "\n")
        self.fault(SET + ">a\n>", "\n")

    def test_blanks(self):
        self.fault(SET + ">", " a\n")
        self.fault(SET + ">a ", " b\n")
        self.fault(SET + ">a ", "\n")

    def test_many_words(self):
        self.work(SET + ">" + "a " * 4000 + "a\n")
        self.work(SET + ">a\n" * 2700)

    def test_bounds_beyond_what_is_handed_in(self):
        self.work(SET + ">a b\n" * 4096)
        self.fault(SET + ">a\n" * 4096, ">a\n")
        self.fault(SET + ">a" + " a" * 8191, " a\n")
        self.fault(SET + ">a" + " a" * 8191 + "\n", ">a\n")
        self.fault(SET + ">a\n>a" + " a" * 8190, " a\n")
        self.assertEqual(judge([94] * 1048576), [-6, 1])
        self.assertEqual(judge([94] * 1048577), [-2])


class Signs(JudgeCase):
    base = SET + ">a b\n>c\n"

    def test_lengths_of_things(self):
        self.work(self.base + "{0 x\n")
        self.work(self.base + "{0 " + "x" * 16 + "\n")
        self.work(self.base + "{0 " + "\u00e9" * 16 + "\n")
        self.fault(self.base + "{0 " + "x" * 16, "x\n")
        self.fault(self.base + "{0 " + "^" * 16, "^\n")

    def test_how_many_things(self):
        self.work(self.base + "{0 x x x x\n")
        self.fault(self.base + "{0 x x x x", " x\n")
        self.fault(self.base + "{0", "\n")
        self.fault(self.base + "{0 ", "\n")
        self.fault(self.base + "{0 x ", "\n")
        self.fault(self.base + "{0 ", " x\n")

    def test_numbers(self):
        self.work(self.base + "{0 x\n{0 x\n{2 x\n{2 y\n")
        self.fault(self.base + "{", "3 x\n")
        self.fault(self.base + "{2", "0 x\n")
        self.fault(self.base + "{0", "0 x\n")
        self.fault(self.base + "{", " 0 x\n")
        self.fault(self.base + "{", "x\n")

    def test_falling(self):
        self.fault(self.base + "{1 x\n{", "0 x\n")
        self.fault(self.base + "{2 x\n{", "1 x\n")
        many = SET + ">" + "a " * 120 + "a\n{100 x\n"
        self.fault(many + "{", "9 x\n")
        self.fault(many + "{1", " x\n")
        self.fault(many + "{12", "1 x\n")
        self.work(many + "{120 x\n")

    def test_without_words(self):
        self.fault(SET, "{0 x\n")
        self.fault(SET + "(33 33 1\n", "{0 x\n")

    def test_most(self):
        self.work(self.base + "{0 x\n" * 4096)
        self.fault(self.base + "{0 x\n" * 4096, "{0 x\n")


class Entries(JudgeCase):
    base = SET + ">a b\n>c\n"

    def test_tokens(self):
        self.work(self.base + "[0 1\n[0 1 x\n[0 1 " + "x" * 64 + " " + "|" * 64 + "\n")
        self.fault(self.base + "[0 1 " + "x" * 64, "x\n")
        self.fault(self.base + "[0 1 ", "[x\n")
        self.fault(self.base + "[0 1 ", "#x\n")
        self.fault(self.base + "[0 1 x ", "#\n")
        self.work(self.base + "[0 1 x[ x#\n")

    def test_how_many_tokens(self):
        self.work(self.base + "[0 1" + " x" * 1024 + "\n")
        self.fault(self.base + "[0 1" + " x" * 1024, " x\n")

    def test_blanks(self):
        self.fault(self.base + "[", " 0 1\n")
        self.fault(self.base + "[0 1 ", "\n")
        self.fault(self.base + "[0 1 ", " x\n")
        self.fault(self.base + "[0 1 x ", "\n")
        self.fault(self.base + "[0", "\n")
        self.fault(self.base + "[0 ", "\n")

    def test_counts(self):
        self.work(self.base + "[0 3\n[1 2\n[2 1\n[3 0\n[3 0\n")
        self.fault(self.base + "[0 ", "4\n")
        self.fault(self.base + "[1 ", "3\n")
        self.fault(self.base + "[2 ", "2\n")
        self.fault(self.base + "[3 ", "1\n")
        self.fault(self.base + "[0 1", "0\n")
        self.fault(self.base + "[0 0", "1\n")

    def test_firsts(self):
        self.fault(self.base + "[", "4 0\n")
        self.fault(self.base + "[3", "0 0\n")
        self.fault(self.base + "[0", "0 0\n")

    def test_falling(self):
        self.fault(self.base + "[1 0\n[", "0 0\n")
        self.fault(self.base + "[3 0\n[", "2 0\n")
        self.work(self.base + "[1 0\n[1 2\n[1 0\n")
        many = SET + ">" + "a " * 99 + "a\n"
        self.work(many + "[9 91\n[10 90\n[100 0\n")
        self.fault(many + "[10 9", "1\n")
        self.fault(many + "[10 0\n[9", " 0\n")

    def test_without_words(self):
        self.fault(SET, "[0 0\n")
        self.fault(SET + "(33 33 1\n", "[0 0\n")

    def test_most(self):
        self.work(self.base + "[0 0\n" * 4096)
        self.fault(self.base + "[0 0\n" * 4096, "[0 0\n")
        full = self.base + ("[0 0" + " x" * 1024 + "\n") * 64
        self.work(full + "[0 0\n")
        self.fault(full + "[0 0", " x\n")


class EveryByte(JudgeCase):
    digits = b"0123456789"
    letters = bytes(byte for byte in range(33, 127) if chr(byte) not in oracle.MARKS) + bytes(range(0xC2, 0xF5))
    marks = oracle.MARKS.encode()

    def goes_on(self, good, *ways):
        """Behind good stands any byte of ways, and no other."""
        ways = b"".join(ways)
        for byte in range(256):
            answer = judge(data(good) + [byte])
            if byte not in ways:
                self.assertEqual(answer, [-6, len(data(good))], (good, byte))
            elif answer != [0]:
                self.assertEqual(answer, [-6, len(data(good)) + 1], (good, byte))

    def test_settings(self):
        self.goes_on("", b"^")
        for good in ("^", "^20 ", "^20 6 ", "^20 6 1 "):
            self.goes_on(good, self.digits[1:])
        self.goes_on("^2", self.digits)
        self.goes_on("^20", b" ", self.digits)
        self.goes_on("^24", b" 0")
        self.goes_on("^25", b" ")
        self.goes_on("^20 6", b" ", self.digits)
        self.goes_on("^20 6 1", b" 0123456")
        self.goes_on("^20 6 1 10", b" 0")
        self.goes_on("^20 6 1 1 ", b"01")
        self.goes_on("^20 6 1 1 1", b" ")
        self.goes_on("^20 6 1 1 0 ", self.digits)
        self.goes_on("^20 6 1 1 0 0", b"\n")
        self.goes_on("^20 6 1 1 0 1000", b"\n0")

    def test_widths(self):
        self.goes_on(SET, b"(>")
        self.goes_on(SET + "(", self.digits[1:])
        self.goes_on(SET + "(3", self.digits)
        self.goes_on(SET + "(111411", b" 01")
        self.goes_on(SET + "(40 ", self.digits[1:])
        self.goes_on(SET + "(40 4", self.digits)
        self.goes_on(SET + "(40 40 ", b"012")
        self.goes_on(SET + "(40 40 2", b"\n")
        self.goes_on(SET + "(40 40 2\n", b"(>")

    def test_words(self):
        self.goes_on(SET + ">", self.letters)
        self.goes_on(SET + ">a", self.letters, b" \n")
        self.goes_on(SET + ">a ", self.letters)
        self.goes_on(SET + ">" + "a" * 64, b" \n")
        self.goes_on(SET + ">a\n", b">{[")

    def test_signs(self):
        base = SET + ">a b\n"
        self.goes_on(base + "{", b"01")
        self.goes_on(base + "{0", b" ")
        self.goes_on(base + "{0 ", self.letters, b"^")
        self.goes_on(base + "{0 x", self.letters, b"^ \n")
        self.goes_on(base + "{0 " + "x" * 16, b" \n")
        self.goes_on(base + "{0 x x x x", self.letters, b"^\n")
        self.goes_on(base + "{0 x\n", b"{[")

    def test_entries(self):
        base = SET + ">a b\n"
        tokens = self.letters + self.marks
        self.goes_on(base + "[", b"012")
        self.goes_on(base + "[1", b" ")
        self.goes_on(base + "[1 ", b"01")
        self.goes_on(base + "[2 ", b"0")
        self.goes_on(base + "[1 1", b" \n")
        self.goes_on(base + "[1 1 ", tokens.translate(None, b"[#"))
        self.goes_on(base + "[1 1 x", tokens, b" \n")
        self.goes_on(base + "[1 1 " + "x" * 64, b" \n")
        self.goes_on(base + "[1 1\n", b"[")


class AgainstTheWords(unittest.TestCase):
    def check(self, text):
        handed = list(text)
        answer = judge(handed)
        self.assertEqual(handed, list(text))
        self.assertEqual(judge(handed), answer)
        self.assertTrue(all(type(number) is int for number in answer) and type(answer) is list)
        if oracle.parse(text) is not None:
            self.assertEqual(answer, [0], text)
            return
        self.assertEqual((len(answer), answer[0]), (2, -6), text)
        fault = answer[1]
        self.assertTrue(oracle.is_beginning(text[:fault]), (text, fault))
        if fault < len(text):
            self.assertFalse(oracle.is_beginning(text[:fault + 1]), (text, fault))

    def test_works_and_spoiled_works(self):
        source = random.Random(20)
        for k in range(400):
            text = oracle.random_work(source).text()
            self.check(text)
            self.check(oracle.spoiled(source, text))

    def test_random_lines(self):
        source = random.Random(21)
        for k in range(200):
            text = SET.encode() + b">a b c d e f g h i j k l\n"
            for at in range(3):
                text += source.choice((b"(", b">", b"{", b"[")) + str(source.randrange(14)).encode()
                text += b" " + str(source.randrange(14)).encode() + b"\n"
            self.check(text)

    def test_numbers_by_and_by(self):
        source = random.Random(22)
        for k in range(300):
            low = source.choice((33, 99, 100, 999, 1000, 34567, 99999, 109999, 999999, 1099999, 1114110))
            number = source.choice((source.randrange(1200000), low - 1, low, low + 1, low // 10, low * 10))
            self.check(f"{SET}(33 {low} 1\n({number} {source.randrange(1200000)} 1\n".encode())


class Calls(JudgeCase):
    def test_nothing_is_kept_or_changed(self):
        handed = data(WHOLE)
        spoilt = data(WHOLE) + [0]
        for k in range(3):
            self.assertEqual(judge(handed), [0])
            self.assertEqual(judge(spoilt), [-6, len(handed)])
            self.assertEqual(handed, data(WHOLE))
            self.assertEqual(spoilt, data(WHOLE) + [0])

    def test_kinds(self):
        for text in ("", SET, WHOLE, WHOLE[:-1]):
            answer = judge(data(text))
            self.assertIs(type(answer), list)
            self.assertTrue(all(type(number) is int for number in answer))


if __name__ == "__main__":
    unittest.main()
