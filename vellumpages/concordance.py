"""A list of words, how it is read from its text, and its concordance as it is printed."""

from vellumpages.letters import BLANK, MOST_LETTERS, bytes_of, characters_of, joined

# How many words are shown before and behind a counted one.
LIST_BOUNDS = ((0, 8), (0, 8))
MOST_LISTED = 8192


class Listing:
    def __init__(self, settings):
        self.before = settings[0]
        self.behind = settings[1]
        # The bytes of the settings, which are printed as they stand.
        self.head = []
        self.words = []
        # For each of what words are counted as, the numbers of these words.
        self.counted = {}


def read_listed(reader, listing):
    reader.take(">")
    things = reader.take_things(2, MOST_LETTERS, ())
    reader.take("\n")
    words = listing.words
    if len(things) == 2:
        listing.counted.setdefault(tuple(things[1]), []).append(len(words))
    words.append(things[0])


def read_listing(reader):
    listing = Listing(reader.take_head(LIST_BOUNDS))
    listing.head = reader.t[:reader.at]
    while reader.sees(">") and len(listing.words) < MOST_LISTED:
        read_listed(reader, listing)
    reader.take_end()
    return listing


def in_brackets(word):
    return characters_of("[") + word + characters_of("]")


# A counted word's line.
def printed_place(listing, k):
    words = listing.words
    shown = [characters_of(f"{k}")]
    shown.extend(words[max(0, k - listing.before):k])
    shown.append(in_brackets(words[k]))
    shown.extend(words[k + 1:k + 1 + listing.behind])
    return characters_of(" ") + joined(shown, BLANK) + characters_of("\n")


def printed_listing(listing):
    printed = list(listing.head)
    # Letters are numbers here, so they come in their order, and a beginning comes first.
    for letters in sorted(listing.counted):
        places = listing.counted[letters]
        count = len(places)
        printed.extend(characters_of("="))
        printed.extend(letters)
        printed.extend(characters_of(f" {count}\n"))
        for k in places:
            printed.extend(printed_place(listing, k))
    return bytes_of(printed)
