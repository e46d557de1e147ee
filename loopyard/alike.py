"""Programs alike: the bare logs of lives, held against each other for ever [13]."""

from loopyard.endings import check_most, closed_fate, end_within, lived
from loopyard.program import check_life
from loopyard.running import Life
from loopyard.values import bare_value


def bare_row(said):
    """An entry of the bare log."""
    clock, has_task, values = said
    return (clock, has_task, *[bare_value(value) for value in values])


def bare_log(life):
    return [bare_row(said) for said in life.loop.said]


def bare(program, call, most):
    """The entries that a life writes in so many turns, without telling things apart."""
    check_life(program, call)
    check_most(most)
    life = Life(program, call)
    end_within(life, most)
    return bare_log(life)


class Course:
    """The bare log of a life for ever: behind the first entries it comes again and again, so many ticks later."""

    def __init__(self, program, call, paper):
        life = lived(program, call, paper[1])
        self.first = len(life.loop.said)
        self.ticks = 0
        if paper[0] == "round":
            now = life.loop.now
            end_within(life, paper[1] + paper[2])
            self.ticks = life.loop.now - now
        self.rows = bare_log(life)
        self.period = len(self.rows) - self.first

    def entry(self, at):
        """The entry at this index, None if there is none."""
        if at < len(self.rows):
            return self.rows[at]
        if self.period == 0:
            return None
        times, place = divmod(at - self.first, self.period)
        clock, *rest = self.rows[self.first + place]
        return (clock + times * self.ticks, *rest)


def parted(program, call, other, other_call, most):
    """The index of the first entry in which two lives part, None if they are alike."""
    check_life(program, call)
    check_life(other, other_call)
    check_most(most)
    paper = closed_fate(program, call, most)
    other_paper = closed_fate(other, other_call, most)
    one, two = Course(program, call, paper), Course(other, other_call, other_paper)
    # Two rows that come again with these periods are equal for ever if they are so for both periods together.
    many = max(one.first, two.first) + one.period + two.period
    for at in range(many + 1):
        if one.entry(at) != two.entry(at):
            return at
    return None


def pace(program, call, most):
    """How many entries come ahead of a round and how many in each period, and by how many ticks each takes."""
    check_life(program, call)
    check_most(most)
    paper = closed_fate(program, call, most)
    if paper[0] != "round":
        return None
    course = Course(program, call, paper)
    return (course.first, course.period, course.ticks)
