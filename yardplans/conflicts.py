"""What routes need of points, and which routes can be set at once.

A route is, as it is found, a tuple of its signal's number and its steps.
"""

from yardplans.plan import POINT


def sections_of(route):
    """The sections that the route goes through, in its order."""
    return [step[0] for step in route[1]]


def needed_points(plan, route):
    """Of each point that the route goes through, in its order: the section, and 1 normal or 2 reverse."""
    # One of a point's two ends is the toe, 0: the other tells how the point must lie.
    return [(step[0], max(step[1], step[2])) for step in route[1] if plan.section_kind(step[0]) == POINT]


def shared_sections(route, other):
    """The sections of the route, in its order, that are the other's too."""
    others = sections_of(other)
    return [section for section in sections_of(route) if section in others]


def in_conflict(route, other):
    """Whether some section is of both routes."""
    return len(shared_sections(route, other)) > 0


def taken_in_turn(routes, numbers):
    """Of these routes' numbers, one after another, each whose route conflicts with none taken before."""
    taken = []
    used = []
    for number in numbers:
        sections = sections_of(routes[number])
        if not any([section in used for section in sections]):
            taken.append(number)
            used.extend(sections)
    return taken


def most_at_once(routes, numbers):
    """As many as can be of these routes' numbers (they rise), none in conflict; the lower where two first differ.

    It calls itself, each time with fewer numbers, of which there are few.
    """
    if len(numbers) == 0:
        return []
    first = numbers[0]
    behind = numbers[1:]
    beside = [number for number in behind if not in_conflict(routes[first], routes[number])]
    taking = [first] + most_at_once(routes, beside)
    # A first one that keeps out no other is in no one's way: without it there is never more.
    if len(beside) == len(behind):
        return taking
    leaving = most_at_once(routes, behind)
    # Of as many, that with the first one is right: where the two first differ, it is the lower number.
    return taking if len(taking) >= len(leaving) else leaving
