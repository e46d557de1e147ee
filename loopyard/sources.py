"""The sources at which values arrive from outside [3.3, 5.9]."""


class Source:
    """What arrives at a source, and how much of it was taken."""

    def __init__(self):
        self.rows = []
        self.taken = 0

    def is_spent(self):
        return self.taken == len(self.rows)

    def next_time(self):
        return self.rows[self.taken][0]

    def has_arrived(self, clock):
        return not self.is_spent() and self.next_time() <= clock

    def to_come(self, clock):
        """What was not taken, each with the time until it arrives; 0 if it has."""
        return tuple([(max(0, at - clock), value) for at, value in self.rows[self.taken:]])

    def take(self):
        value = self.rows[self.taken][1]
        self.taken += 1
        return value


def all_sources(outside):
    sources = {}
    for at, word, value in outside:
        if word not in sources:
            sources[word] = Source()
        sources[word].rows.append((at, value))
    return sources
