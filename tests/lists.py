"""Lists of words for the tests: the document's words taken literally, and lists made by lot."""

import re

from tests.oracle import is_thing, random_thing

HEAD = re.compile(r"\^([0-8]) ([0-8])")
LETTERS = "aab1-\u00e9\u4e2d\uffee\U0001f600"


class List:
    def __init__(self, before, behind, words=()):
        self.before, self.behind = before, behind
        # (word, what it's counted as or None)
        self.words = list(words)

    def text(self):
        out = [f"^{self.before} {self.behind}"]
        out += [">" + word + ("" if counted is None else " " + counted) for word, counted in self.words]
        return "".join(line + "\n" for line in out).encode()


def parse(data):
    """The list whose text these bytes are, or None."""
    try:
        lines = bytes(data).decode("utf-8").split("\n")
    except UnicodeDecodeError:
        return None
    head = HEAD.fullmatch(lines[0])
    if head is None or lines.pop() != "" or len(lines) > 8193:
        return None
    found = List(int(head.group(1)), int(head.group(2)))
    for line in lines[1:]:
        things = line[1:].split(" ")
        if line[:1] != ">" or len(things) > 2 or not all(is_thing(thing, 64) for thing in things):
            return None
        found.words.append((things[0], things[1] if len(things) == 2 else None))
    return found


def printed(listed):
    out = [f"^{listed.before} {listed.behind}"]
    kinds = {counted for word, counted in listed.words if counted is not None}
    for kind in sorted(kinds, key=lambda letters: [ord(letter) for letter in letters]):
        out.append(f"={kind} {sum(counted == kind for word, counted in listed.words)}")
        for k, (word, counted) in enumerate(listed.words):
            if counted == kind:
                near = [listed.words[at][0] if at != k else f"[{word}]"
                        for at in range(k - listed.before, k + listed.behind + 1) if 0 <= at < len(listed.words)]
                out.append(" ".join(["", str(k)] + near))
    return "".join(line + "\n" for line in out).encode()


def places(shown):
    """What a printed concordance tells: (what it's counted as, the word's number, the word), in its order."""
    found = []
    for line in shown.decode().split("\n")[1:-1]:
        if line.startswith("="):
            kind, count = line[1:].split(" ")
            found.append((kind, int(count), []))
        else:
            things = line[1:].split(" ")
            found[-1][2].append((int(things[0]), *[thing[1:-1] for thing in things if thing.startswith("[")]))
    assert all(count == len(words) for kind, count, words in found)
    return [(kind, *word) for kind, count, words in found for word in words]


def random_list(source, most=20):
    listed = List(source.randrange(9), source.randrange(9))
    size = source.choice((1, 2, 3, 9, 64))
    often = source.choice((0, 0.3, 0.9, 1))
    for word in range(source.randint(0, most)):
        word = random_thing(source, size, LETTERS)
        counted = word if source.random() < 0.3 else random_thing(source, source.choice((1, 2, size)), LETTERS)
        listed.words.append((word, counted if source.random() < often else None))
    return listed
