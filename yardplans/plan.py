"""What a plan holds: sections, joins, borders and signals.

An end is a tuple of its section's number and its own number, so that
the ends' order is the order of their tuples.
"""

PLAIN = 0
POINT = 1
# How many ends a plain section, a point and a cross have.
END_COUNTS = (2, 3, 4)


class Plan:
    """A plan. What is added to it has been found right before."""

    def __init__(self):
        # Of each section its kind and its name; where each name stands there.
        self.sections = []
        self.numbers = {}
        # Each joined end with the other one, so a join stands here twice.
        self.joined = {}
        self.borders = {}
        self.signals = {}

    def add_section(self, kind, name):
        """Add a section behind the others."""
        self.numbers[name] = len(self.sections)
        self.sections.append((kind, name))

    def add_join(self, first, second):
        """Join two ends."""
        self.joined[first] = second
        self.joined[second] = first

    def add_border(self, end):
        """Make the end a border."""
        self.borders[end] = True

    def add_signal(self, end):
        """Put a signal at the end."""
        self.signals[end] = True

    def section_kind(self, section):
        """The kind of a section that is there."""
        return self.sections[section][0]

    def section_name(self, section):
        """The name of a section that is there."""
        return self.sections[section][1]

    def has_end(self, end):
        """Whether there is such a section, with such an end."""
        if end[0] >= len(self.sections):
            return False
        return end[1] < END_COUNTS[self.section_kind(end[0])]

    def is_taken(self, end):
        """Whether the end is joined or a border."""
        return end in self.joined or end in self.borders

    def border_ends(self):
        """The borders' ends, as borders are numbered."""
        return sorted(self.borders)

    def signal_ends(self):
        """The signals' ends, as signals are numbered."""
        return sorted(self.signals)

    def join_ends(self):
        """The joins as tuples of their two ends, the lower first, in the order of those."""
        return [(end, self.joined[end]) for end in sorted(self.joined) if end < self.joined[end]]
