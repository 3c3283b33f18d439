"""Keys of entries, and notes with their foot lines."""

from vellumpages.breaking import best_from, ends_of, joined_lines, tails_of
from vellumpages.letters import cells_of_thing, characters_of


# Which of the words like it word f is in its line, as the key tells it: nothing if it is the only one.
def place_among_like(words, line_first, line_end, f):
    like = [k for k in range(line_first, line_end) if words[k] == words[f]]
    if len(like) == 1:
        return ""
    return "^" + str(like.index(f) + 1)


def key_of(words, line_first, line_end, f, m):
    if f == len(words):
        return characters_of("[+]")
    key = characters_of("[+" if m == 0 else "[")
    key.extend(words[f])
    key.extend(characters_of(place_among_like(words, line_first, line_end, f)))
    if m >= 2:
        key.extend(characters_of(f"~{m}~"))
        key.extend(words[f + m - 1])
    key.extend(characters_of("]"))
    return key


# A note's number may hang on the page where its line stands, so it is put in front only when it is known.
# Till then the place of it takes no cell; the first foot line has so much less room instead.
class Note:
    def __init__(self, work, things):
        self.things = things
        self.takes = [0] + [cells_of_thing(work.rows, thing) for thing in things]
        self.tails = tails_of(self.takes, work.width)


def number_thing(number):
    return characters_of(f"#{number}")


def first_room(work, number):
    return work.width - cells_of_thing(work.rows, number_thing(number))


def count_foot_lines(work, note, number):
    return best_from(note.takes, note.tails, 0, first_room(work, number))[2]


def foot_lines_of(work, note, number):
    things = [number_thing(number)] + note.things
    return joined_lines(things, ends_of(note.takes, note.tails, first_room(work, number)))
