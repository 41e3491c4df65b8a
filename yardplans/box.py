"""The calls on one object that holds a plan, and how they and their answers are laid out."""

from yardplans.plan import Plan
from yardplans.printing import print_plan
from yardplans.reading import read_text
from yardplans.routing import find_routes

LONGEST_TEXT = 1024
MOST_ROUTES = 64


class Box:
    """The object that calls are made on: a plan, and its routes once they have been asked for."""

    def __init__(self):
        self.plan = Plan()
        self.found = None

    def hold(self, plan):
        """Hold this plan in the place of the one before."""
        self.plan = plan
        self.found = None

    def all_routes(self):
        """The plan's routes, found once for each plan that is held."""
        if self.found is None:
            self.found = find_routes(self.plan)
        return self.found


def answer_read(box, text):
    """read: how many sections; -2, -6 with the first fault."""
    if len(text) > LONGEST_TEXT:
        return [-2]
    # A new plan is filled, so that a fault leaves the one that is held as it is.
    plan = Plan()
    fault = read_text(plan, text)
    if fault is not None:
        return [-6] + fault
    box.hold(plan)
    return [len(plan.sections)]


def answer_print(box, given):
    """print: how many bytes, they."""
    text = print_plan(box.plan)
    return [len(text)] + text


def answer_section(box, given):
    """section: its kind, how many bytes its name has, they; -4."""
    plan = box.plan
    section = given[0]
    if section >= len(plan.sections):
        return [-4]
    name = plan.section_name(section)
    return [plan.section_kind(section), len(name)] + list(name)


def answer_end(box, given):
    """end: 0; 1, the end joined to, the signal's number and 1 (or 0); 2, the border's number; -4."""
    plan = box.plan
    end = (given[0], given[1])
    if not plan.has_end(end):
        return [-4]
    if end in plan.borders:
        return [2, plan.border_ends().index(end)]
    if end not in plan.joined:
        return [0]
    signal = 0
    if end in plan.signals:
        signal = plan.signal_ends().index(end) + 1
    return [1] + list(plan.joined[end]) + [signal]


def answer_counts(box, given):
    """counts: how many sections, joins, borders, signals."""
    plan = box.plan
    return [len(plan.sections), len(plan.join_ends()), len(plan.borders), len(plan.signals)]


def answer_routes(box, given):
    """routes: how many; -9."""
    count = len(box.all_routes())
    return [-9] if count > MOST_ROUTES else [count]


# By the call's number: what answers it, and how many whole numbers it has (None: it has a row in their place).
CALLS = (
    (answer_read, None),
    (answer_print, 0),
    (answer_section, 1),
    (answer_end, 2),
    (answer_counts, 0),
    (answer_routes, 0),
)


def split_calls(calls):
    """Each call as its number and the list of what it is given, its row's length left out."""
    split = []
    place = 0
    while place < len(calls):
        number = calls[place]
        start = place + 1
        size = CALLS[number][1]
        if size is None:
            size = calls[start]
            start = start + 1
        split.append((number, calls[start:start + size]))
        place = start + size
    return split


def answers(calls):
    """What the calls on one new object answer, each answer behind its length."""
    box = Box()
    told = []
    for number, given in split_calls(calls):
        act = CALLS[number][0]
        answer = act(box, given)
        told.append(len(answer))
        told.extend(answer)
    return told
