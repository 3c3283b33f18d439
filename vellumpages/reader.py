"""A reader of bytes that stands still at the first byte no text goes on with."""

from vellumpages.letters import MARKS, is_letter

# Above every byte, so that it is like none of them.
NO_BYTE = 256
# A blank, 0AH.
ENDS = (32, 10)


class NoText(ValueError):
    pass


# Some number from low to high begins with the digits of value.
def begins_some(value, low, high):
    # Nothing follows a nought in front.
    if value == 0:
        return low == 0
    least = value
    most = value
    while least <= high:
        if most >= low:
            return True
        least = least * 10
        most = most * 10 + 9
    return False


# How many bytes a character has that begins so, 0 if none does.
def size_by_lead(lead):
    if lead < 0x80:
        return 1
    if 0xC2 <= lead <= 0xDF:
        return 2
    if 0xE0 <= lead <= 0xEF:
        return 3
    if 0xF0 <= lead <= 0xF4:
        return 4
    return 0


# Where the second byte may lie: this keeps out what is too long, halves of pairs, and what is above 10FFFFH.
def bounds_behind(lead):
    if lead == 0xE0:
        return (0xA0, 0xBF)
    if lead == 0xED:
        return (0x80, 0x9F)
    if lead == 0xF0:
        return (0x90, 0xBF)
    if lead == 0xF4:
        return (0x80, 0x8F)
    return (0x80, 0xBF)


# The value at is the fault, wherever NoText is raised: it goes on only by bytes that some text has there.
class Reader:
    def __init__(self, t):
        self.t = t
        self.at = 0

    def peek(self):
        if self.at < len(self.t):
            return self.t[self.at]
        return NO_BYTE

    def sees(self, sign):
        return self.peek() == ord(sign)

    def take(self, sign):
        if not self.sees(sign):
            raise NoText("another byte")
        self.at += 1

    def take_end(self):
        if self.peek() != NO_BYTE:
            raise NoText("bytes behind the end")

    def take_digit(self, value, low, high):
        digit = self.peek() - 48
        if not 0 <= digit <= 9 or not begins_some(value * 10 + digit, low, high):
            raise NoText("no digit of a number within bounds")
        self.at += 1
        return value * 10 + digit

    def take_number(self, low, high):
        value = self.take_digit(0, low, high)
        while value > 0 and 48 <= self.peek() <= 57:
            value = self.take_digit(value, low, high)
        if value < low:
            raise NoText("a number that is too small yet")
        return value

    # The first line of a text: so many numbers, each within its bounds.
    def take_head(self, all_bounds):
        numbers = []
        self.take("^")
        for bounds in all_bounds:
            if len(numbers) > 0:
                self.take(" ")
            numbers.append(self.take_number(bounds[0], bounds[1]))
        self.take("\n")
        return numbers

    def take_character(self, marks):
        lead = self.peek()
        size = size_by_lead(lead)
        if size > 1:
            return self.take_long_letter(lead, size)
        if size == 0 or not (is_letter(lead) or lead in marks):
            raise NoText("no letter")
        self.at += 1
        return lead

    def take_long_letter(self, lead, size):
        self.at += 1
        value = lead - (0xC0, 0xE0, 0xF0)[size - 2]
        bounds = bounds_behind(lead)
        for left in range(size - 2, -1, -1):
            byte = self.peek()
            if not bounds[0] <= byte <= bounds[1]:
                raise NoText("no character")
            value = value * 64 + byte - 0x80
            # Every beginning of a long character goes on to some letter; just its last byte can spoil it.
            if left == 0 and not is_letter(value):
                raise NoText("no letter")
            self.at += 1
            bounds = (0x80, 0xBF)
        return value

    # A mark that can't stand in the thing ends it, as a blank does; whether it may follow isn't known here.
    def ends_thing(self, marks):
        byte = self.peek()
        return byte in ENDS or (byte in MARKS and byte not in marks)

    def take_thing(self, most, marks):
        thing = [self.take_character(marks)]
        while len(thing) < most and not self.ends_thing(marks):
            thing.append(self.take_character(marks))
        return thing

    # One thing at least, one blank between two.
    def take_things(self, most_things, most, marks):
        things = [self.take_thing(most, marks)]
        while self.sees(" ") and len(things) < most_things:
            self.take(" ")
            things.append(self.take_thing(most, marks))
        return things
