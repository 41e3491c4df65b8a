"""Prints a plan in its one form."""

from yardplans.words import BLANK, DIGIT_ZERO, DOT, LINE_END, SECTION_WORDS, codes


def line_of(first, words):
    """The bytes of a line: its first word, given as a text, and the words behind it."""
    line = codes(first)
    for word in words:
        line.append(BLANK)
        line.extend(word)
    line.append(LINE_END)
    return line


def end_word(plan, end):
    """The word that tells an end."""
    return list(plan.section_name(end[0])) + [DOT, DIGIT_ZERO + end[1]]


def print_plan(plan):
    """The bytes of the plan's text in the one form."""
    text = []
    for kind, name in plan.sections:
        text.extend(line_of(SECTION_WORDS[kind], [name]))
    for first, second in plan.join_ends():
        text.extend(line_of("join", [end_word(plan, first), end_word(plan, second)]))
    for end in plan.border_ends():
        text.extend(line_of("border", [end_word(plan, end)]))
    for end in plan.signal_ends():
        text.extend(line_of("signal", [end_word(plan, end)]))
    return text
