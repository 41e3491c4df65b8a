"""Finds a plan's routes.

A step is a tuple: a section, the end come in by, the end left by. A way
is a tuple of steps: first the one in the signal's own section, so that
it counts as gone through, then those of the route.
"""

from yardplans.plan import PLAIN

# For a plain section, a point, a cross: by the end come in by, the ends that may be left by.
THROUGH = (
    ((1,), (0,)),
    ((1, 2), (0,), (0,)),
    ((1,), (0,), (3,), (2,)),
)


def may_stop(plan, step):
    """Whether a train may stop in the step's section, heading for the end left by."""
    end = (step[0], step[2])
    if plan.section_kind(step[0]) != PLAIN:
        return False
    return end in plan.signals or end not in plan.joined


def ways_on(plan, way):
    """The way with each step that can follow, that by the lowest end last."""
    left = (way[-1][0], way[-1][2])
    if left not in plan.joined:
        return []
    entered = plan.joined[left]
    section = entered[0]
    if section in [step[0] for step in way]:
        return []
    exits = THROUGH[plan.section_kind(section)][entered[1]]
    return [way + ((section, entered[1], end),) for end in reversed(exits)]


def routes_from(plan, signal):
    """The steps of each route that begins at the signal's end, in order."""
    found = []
    # The last one waiting is taken first, so all behind a lower end come before those behind a higher.
    waiting = ways_on(plan, ((signal[0], 1 - signal[1], signal[1]),))
    while len(waiting) > 0:
        way = waiting.pop()
        if may_stop(plan, way[-1]):
            found.append(way[1:])
        else:
            waiting.extend(ways_on(plan, way))
    return found


def find_routes(plan):
    """All routes in order, each as its signal's number and its steps."""
    routes = []
    for number, signal in enumerate(plan.signal_ends()):
        for steps in routes_from(plan, signal):
            routes.append((number, steps))
    return routes
