"""Things broken into lines at the least cost, whether words of a paragraph or things of a note."""

from vellumpages.letters import BLANK, joined


def line_cost(taken, room, is_last):
    if is_last or taken > room:
        return 0
    return (room - taken) ** 2


# The best breaking of the things from start on, its first line having this room:
# what it costs, where its first line ends, how many lines it has.
def best_from(takes, tails, start, room):
    end = start + 1
    taken = takes[start]
    best_end = end
    least = line_cost(taken, room, end == len(takes)) + tails[end][0]
    while end < len(takes):
        taken += 1 + takes[end]
        end += 1
        if taken > room:
            break
        total = line_cost(taken, room, end == len(takes)) + tails[end][0]
        # Of equal ones the longer first line is taken.
        if total <= least:
            least = total
            best_end = end
    return (least, best_end, 1 + tails[best_end][2])


# For each place but the first, what best_from says of the things from there on.
# The first line stands apart since its room, or what its first thing takes, may be another.
def tails_of(takes, room):
    tails = [(0, len(takes), 0) for k in range(len(takes) + 1)]
    for start in range(len(takes) - 1, 0, -1):
        tails[start] = best_from(takes, tails, start, room)
    return tails


# Where each line of the best breaking ends.
def ends_of(takes, tails, first_room):
    end = best_from(takes, tails, 0, first_room)[1]
    ends = [end]
    while end < len(takes):
        end = tails[end][1]
        ends.append(end)
    return ends


# The lines themselves, one blank between two things.
def joined_lines(things, ends):
    lines = []
    start = 0
    for end in ends:
        lines.append(joined(things[start:end], BLANK))
        start = end
    return lines
