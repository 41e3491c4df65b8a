"""The calls on one object that holds a plan, and how they and their answers are laid out."""

from yardplans.conflicts import most_at_once, needed_points, shared_sections, taken_in_turn
from yardplans.plan import Plan
from yardplans.printing import print_plan
from yardplans.reading import read_text
from yardplans.routing import find_routes

LONGEST_TEXT = 1024
MOST_ROUTES = 64
LONGEST_MOST = 12


class Box:
    """The object that calls are made on: a plan, and its routes once they have been asked for."""

    def __init__(self):
        self.plan = Plan()
        self.found = None

    def hold(self, plan):
        """Hold this plan in the place of the one before."""
        self.plan = plan
        self.found = None

    def all_routes(self):
        """The plan's routes, found once for each plan that is held."""
        if self.found is None:
            self.found = find_routes(self.plan)
        return self.found

    def has_routes(self, numbers):
        """Whether there is a route of each of these numbers."""
        count = len(self.all_routes())
        return all([number < count for number in numbers])


def answer_read(box, text):
    """read: how many sections; -2, -6 with the first fault."""
    if len(text) > LONGEST_TEXT:
        return [-2]
    # A new plan is filled, so that a fault leaves the one that is held as it is.
    plan = Plan()
    fault = read_text(plan, text)
    if fault is not None:
        return [-6] + fault
    box.hold(plan)
    return [len(plan.sections)]


def answer_print(box, given):
    """print: how many bytes, they."""
    text = print_plan(box.plan)
    return [len(text)] + text


def answer_section(box, given):
    """section: its kind, how many bytes its name has, they; -4."""
    plan = box.plan
    section = given[0]
    if section >= len(plan.sections):
        return [-4]
    name = plan.section_name(section)
    return [plan.section_kind(section), len(name)] + list(name)


def answer_end(box, given):
    """end: 0; 1, the end joined to, the signal's number and 1 (or 0); 2, the border's number; -4."""
    plan = box.plan
    end = (given[0], given[1])
    if not plan.has_end(end):
        return [-4]
    if end in plan.borders:
        return [2, plan.border_ends().index(end)]
    if end not in plan.joined:
        return [0]
    signal = 0
    if end in plan.signals:
        signal = plan.signal_ends().index(end) + 1
    return [1] + list(plan.joined[end]) + [signal]


def answer_counts(box, given):
    """counts: how many sections, joins, borders, signals."""
    plan = box.plan
    return [len(plan.sections), len(plan.join_ends()), len(plan.borders), len(plan.signals)]


def answer_routes(box, given):
    """routes: how many."""
    return [len(box.all_routes())]


def answer_route(box, given):
    """route: its signal's number, how many sections, of each its number and the ends come in and left by; -4."""
    if not box.has_routes(given):
        return [-4]
    route = box.all_routes()[given[0]]
    told = [route[0], len(route[1])]
    for step in route[1]:
        told.extend(step)
    return told


def answer_points(box, given):
    """points: how many, of each its section and 1 normal or 2 reverse; -4."""
    if not box.has_routes(given):
        return [-4]
    points = needed_points(box.plan, box.all_routes()[given[0]])
    told = [len(points)]
    for point in points:
        told.extend(point)
    return told


def answer_conflict(box, given):
    """conflict: 1 and the first section of the first route that is the second's too, or 0; -4."""
    if not box.has_routes(given):
        return [-4]
    routes = box.all_routes()
    shared = shared_sections(routes[given[0]], routes[given[1]])
    return [1, shared[0]] if len(shared) > 0 else [0]


def answer_from(box, given):
    """from: how many routes begin at the signal, their numbers; -4."""
    signal = given[0]
    if signal >= len(box.plan.signals):
        return [-4]
    numbers = [number for number, route in enumerate(box.all_routes()) if route[0] == signal]
    return [len(numbers)] + numbers


def answer_together(box, numbers):
    """together: how many are taken one after another, their numbers; -4."""
    if not box.has_routes(numbers):
        return [-4]
    taken = taken_in_turn(box.all_routes(), numbers)
    return [len(taken)] + taken


def is_rising(numbers):
    """Whether each number is higher than the one before."""
    return all([low < high for low, high in zip(numbers, numbers[1:])])


def answer_most(box, numbers):
    """most: as many as may be together, how many, their numbers; -1, -4."""
    if len(numbers) > LONGEST_MOST or not is_rising(numbers):
        return [-1]
    if not box.has_routes(numbers):
        return [-4]
    most = most_at_once(box.all_routes(), numbers)
    return [len(most)] + most


# By the call's number: what answers it, how many whole numbers it has (None: it has a row in their place),
# and whether it asks for routes.
CALLS = (
    (answer_read, None, False),
    (answer_print, 0, False),
    (answer_section, 1, False),
    (answer_end, 2, False),
    (answer_counts, 0, False),
    (answer_routes, 0, True),
    (answer_route, 1, True),
    (answer_points, 1, True),
    (answer_conflict, 2, True),
    (answer_from, 1, True),
    (answer_together, None, True),
    (answer_most, None, True),
)


def answer_call(box, number, given):
    """What the call of that number answers; -9 stands ahead of all that a call for routes may refuse."""
    if CALLS[number][2] and len(box.all_routes()) > MOST_ROUTES:
        return [-9]
    act = CALLS[number][0]
    return act(box, given)


def split_calls(calls):
    """Each call as its number and the list of what it is given, its row's length left out."""
    split = []
    place = 0
    while place < len(calls):
        number = calls[place]
        start = place + 1
        size = CALLS[number][1]
        if size is None:
            size = calls[start]
            start = start + 1
        split.append((number, calls[start:start + size]))
        place = start + size
    return split


def answers(calls):
    """What the calls on one new object answer, each answer behind its length."""
    box = Box()
    told = []
    for number, given in split_calls(calls):
        answer = answer_call(box, number, given)
        told.append(len(answer))
        told.extend(answer)
    return told
