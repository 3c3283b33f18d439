"""Characters, as numbers: which are letters or marks, the cells they take, the bytes they are."""

# | / ( ) [ ] < > { } = + ~ ^ # "
MARKS = (124, 47, 40, 41, 91, 93, 60, 62, 123, 125, 61, 43, 126, 94, 35, 34)
BLANK = 32
STROKE = 124
FIRST_LETTER = 33
LAST_CHARACTER = 0x10FFFF
# Of a word.
MOST_LETTERS = 64


def is_letter(character):
    if character < FIRST_LETTER or 127 <= character <= 159 or character in MARKS:
        return False
    return character % 0x10000 < 0xFFFE


def cells(rows, character):
    # The rows rise and don't touch, so halving finds the one row that may hold the character.
    low = 0
    high = len(rows)
    while low < high:
        middle = (low + high) // 2
        if rows[middle][1] < character:
            low = middle + 1
        else:
            high = middle
    # A row may well run over marks, but only letters take their cells from it.
    if low < len(rows) and rows[low][0] <= character and character not in MARKS:
        return rows[low][2]
    return 1


def cells_of_thing(rows, thing):
    return sum([cells(rows, character) for character in thing])


def characters_of(text):
    return [ord(sign) for sign in text]


def joined(things, between):
    characters = []
    for k, thing in enumerate(things):
        if k > 0:
            characters.append(between)
        characters.extend(thing)
    return characters


def bytes_of_character(character):
    if character < 0x80:
        return [character]
    last = 0x80 + character % 64
    if character < 0x800:
        return [0xC0 + character // 64, last]
    middle = 0x80 + character // 64 % 64
    if character < 0x10000:
        return [0xE0 + character // 4096, middle, last]
    return [0xF0 + character // 262144, 0x80 + character // 4096 % 64, middle, last]


def bytes_of(characters):
    found = []
    for character in characters:
        found.extend(bytes_of_character(character))
    return found
