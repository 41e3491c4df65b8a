"""Reads a plan's text line by line, up to its first fault.

Each function that reads a line, or a line's words, asks for the faults
from the lowest kind up, as the lowest that is so is the one to be told.
"""

from yardplans.plan import PLAIN
from yardplans.words import BLANK, DIGIT_ZERO, LINE_END, SECTION_WORDS, codes, is_end, is_name, parted

MOST_SECTIONS = 16
MOST_SIGNALS = 12

# The kinds of faults, and what stands for none.
NO_FAULT = 0
NO_SUCH_LINE = 1
NAME_IS_THERE = 2
NO_SUCH_END = 3
END_IS_TAKEN = 4
NOT_JOINED = 5
NOT_PLAIN = 6
TOO_MANY = 7


def are_ends(words, count):
    """Whether these are as many words, each of the form of an end."""
    return len(words) == count and all([is_end(word) for word in words])


def find_end(plan, word):
    """The end that a word of that form tells, None if the plan has no such end."""
    section = plan.numbers.get(tuple(word[:-2]))
    if section is None:
        return None
    end = (section, word[-1] - DIGIT_ZERO)
    return end if plan.has_end(end) else None


def is_at_plain(plan, end):
    """Whether the end is one of a plain section."""
    return plan.section_kind(end[0]) == PLAIN


def read_section(plan, kind, words):
    """Add the section that the words behind its kind tell; give back the kind of fault."""
    if len(words) != 1 or not is_name(words[0]):
        return NO_SUCH_LINE
    name = tuple(words[0])
    if name in plan.numbers:
        return NAME_IS_THERE
    if len(plan.sections) == MOST_SECTIONS:
        return TOO_MANY
    plan.add_section(kind, name)
    return NO_FAULT


def read_join(plan, words):
    """Add the join that the words behind "join" tell; give back the kind of fault."""
    if not are_ends(words, 2):
        return NO_SUCH_LINE
    first = find_end(plan, words[0])
    second = find_end(plan, words[1])
    if first is None or second is None:
        return NO_SUCH_END
    if plan.is_taken(first) or plan.is_taken(second) or first == second:
        return END_IS_TAKEN
    plan.add_join(first, second)
    return NO_FAULT


def read_border(plan, words):
    """Add the border that the words behind "border" tell; give back the kind of fault."""
    if not are_ends(words, 1):
        return NO_SUCH_LINE
    end = find_end(plan, words[0])
    if end is None:
        return NO_SUCH_END
    if plan.is_taken(end):
        return END_IS_TAKEN
    if not is_at_plain(plan, end):
        return NOT_PLAIN
    plan.add_border(end)
    return NO_FAULT


def read_signal(plan, words):
    """Add the signal that the words behind "signal" tell; give back the kind of fault."""
    if not are_ends(words, 1):
        return NO_SUCH_LINE
    end = find_end(plan, words[0])
    if end is None:
        return NO_SUCH_END
    if end in plan.signals:
        return END_IS_TAKEN
    if end not in plan.joined:
        return NOT_JOINED
    if not is_at_plain(plan, end):
        return NOT_PLAIN
    if len(plan.signals) == MOST_SIGNALS:
        return TOO_MANY
    plan.add_signal(end)
    return NO_FAULT


def read_line(plan, line):
    """Add what the line tells, if it has no fault; give back the kind of fault."""
    words = parted(line, BLANK)
    behind = words[1:]
    for kind, word in enumerate(SECTION_WORDS):
        if words[0] == codes(word):
            return read_section(plan, kind, behind)
    if words[0] == codes("join"):
        return read_join(plan, behind)
    if words[0] == codes("border"):
        return read_border(plan, behind)
    if words[0] == codes("signal"):
        return read_signal(plan, behind)
    return NO_SUCH_LINE


def read_text(plan, text):
    """Add the text's lines to a new plan; give back None, or the line and the kind of the first fault."""
    parts = parted(text, LINE_END)
    lines = parts[:-1]
    for number, line in enumerate(lines):
        fault = read_line(plan, line)
        if fault != NO_FAULT:
            return [number, fault]
    # What stands behind the last line end is a line within which the text ends.
    if len(parts[-1]) > 0:
        return [len(lines), NO_SUCH_LINE]
    return None
