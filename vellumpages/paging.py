"""The pages of a work at the least cost: which lines stand on each, how many foot lines go on behind it."""

from vellumpages.notes import count_foot_lines


WHOLE = 0
CUT = 1
FOOT_ALONE = 2


class Page:
    def __init__(self, kind, first, end):
        self.kind = kind
        # Its first line, and the one behind its last.
        self.first = first
        self.end = end
        # How many foot lines on it came over, how many on it are its own lines', how many go on behind it.
        self.came = 0
        self.own = 0
        self.rest = 0
        self.cost = 0


def number_of_line(work, k, page_first):
    if work.anew == 1:
        return k + 1 - page_first
    return k + 1


def own_foot_lines(work, lines, k, page_first):
    if lines[k].note is None:
        return 0
    return count_foot_lines(work, lines[k].note, number_of_line(work, k, page_first))


def wanted(count, foot_count):
    if foot_count > 0:
        return count + foot_count + 1
    return count


# For each whole page that may be: the line behind its last, and what it wants.
def whole_pages(work, lines, first, carried):
    found = []
    foot_count = carried
    for k in range(first, len(lines)):
        foot_count += own_foot_lines(work, lines, k, first)
        wants = wanted(k + 1 - first, foot_count)
        # Each line more wants more.
        if wants > work.height:
            break
        found.append((k + 1, wants))
    return found


def may_be_whole(work, lines, first, carried):
    if first == len(lines):
        return False
    return wanted(1, carried + own_foot_lines(work, lines, first, first)) <= work.height


def loose_cost(work, lines, first, end):
    cost = 0
    if lines[end - 1].opens and not lines[end - 1].closes:
        cost += work.loose
    if lines[first].closes and not lines[first].opens:
        cost += work.loose
    return cost


def whole_cost(work, lines, first, end, wants):
    cost = loose_cost(work, lines, first, end)
    if end < len(lines):
        cost += (work.height - wants) ** 2
    return cost


# What the best whole page and all behind it cost, and the line behind its last.
def best_whole(work, lines, costs, first, carried):
    best = None
    for found in whole_pages(work, lines, first, carried):
        end = found[0]
        cost = whole_cost(work, lines, first, end, found[1]) + costs[end]
        # Of equal ones the page with more lines is taken.
        if best is None or cost <= best[0]:
            best = (cost, end)
    return best


def whole_page(work, lines, first, end, carried):
    page = Page(WHOLE, first, end)
    page.came = carried
    page.own = sum([own_foot_lines(work, lines, k, first) for k in range(first, end)])
    page.cost = whole_cost(work, lines, first, end, wanted(end - first, page.came + page.own))
    return page


def cut_page(work, lines, first, carried):
    page = Page(CUT, first, first + 1)
    page.came = carried
    page.own = work.height - 2 - carried
    page.rest = own_foot_lines(work, lines, first, first) - page.own
    return page


def foot_alone(work, first, carried):
    page = Page(FOOT_ALONE, first, first)
    page.came = min(carried, work.height - 1)
    page.rest = carried - page.came
    return page


# The one page there is where no whole one may be.
def forced_page(work, lines, first, carried):
    if first < len(lines) and carried <= work.height - 3:
        return cut_page(work, lines, first, carried)
    return foot_alone(work, first, carried)


# What the best pages from this line on cost, nothing being carried.
def cost_from(work, lines, costs, first):
    carried = 0
    while (first < len(lines) or carried > 0) and not may_be_whole(work, lines, first, carried):
        page = forced_page(work, lines, first, carried)
        first = page.end
        carried = page.rest
    if first == len(lines):
        return 0
    return best_whole(work, lines, costs, first, carried)[0]


# A whole page leaves nothing to be carried, so these are all the costs that a choice hangs on.
def costs_of(work, lines):
    costs = [0 for k in range(len(lines) + 1)]
    for first in range(len(lines) - 1, -1, -1):
        costs[first] = cost_from(work, lines, costs, first)
    return costs


def pages_of(work, lines):
    costs = costs_of(work, lines)
    pages = []
    first = 0
    carried = 0
    while first < len(lines) or carried > 0:
        if may_be_whole(work, lines, first, carried):
            page = whole_page(work, lines, first, best_whole(work, lines, costs, first, carried)[1], carried)
        else:
            page = forced_page(work, lines, first, carried)
        pages.append(page)
        first = page.end
        carried = page.rest
    return pages
