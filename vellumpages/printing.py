"""Pages as they are printed, in characters."""

from vellumpages.letters import BLANK, STROKE, characters_of, joined
from vellumpages.notes import foot_lines_of
from vellumpages.paging import number_of_line


def printed_words(work, line):
    things = []
    for k in range(line.first, line.end):
        things.append([STROKE for text in work.signs[k]] + work.words[k])
    return joined(things, BLANK)


def printed_signs(work, line):
    texts = []
    for k in range(line.first, line.end):
        texts.extend(work.signs[k])
    if len(texts) == 0:
        return []
    return characters_of(" {") + joined(texts, STROKE) + characters_of("}")


def printed_line(work, line, number):
    margin = str(number) if number % work.every == 0 else ""
    indent = " " * work.indent if line.opens else ""
    printed = characters_of(margin.rjust(4) + " " + indent)
    printed.extend(printed_words(work, line))
    printed.extend(printed_signs(work, line))
    printed.extend(characters_of("\n"))
    return printed


def printed_foot(foot_lines):
    if len(foot_lines) == 0:
        return []
    printed = characters_of("~\n")
    for foot_line in foot_lines:
        printed.extend(characters_of(" "))
        printed.extend(foot_line)
        printed.extend(characters_of("\n"))
    return printed


def printed_pages(work, lines, pages):
    printed = list(work.head)
    waiting = []
    for k, page in enumerate(pages, start=1):
        printed.extend(characters_of(f"={k}\n"))
        for at in range(page.first, page.end):
            number = number_of_line(work, at, page.first)
            printed.extend(printed_line(work, lines[at], number))
            if lines[at].note is not None:
                waiting.extend(foot_lines_of(work, lines[at].note, number))
        shown = len(waiting) - page.rest
        printed.extend(printed_foot(waiting[:shown]))
        waiting = waiting[shown:]
    return printed
