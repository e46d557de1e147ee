"""The states of lives, and whether two of them are the same [12.2]."""

from loopyard.moments import Moment, Walk


def walk_of(life):
    moment = Moment(life.loop)
    return Walk(moment, life.has(moment))


def state_rows(life):
    """The state of a life at this moment, to be kept while the life goes on."""
    walk = walk_of(life)
    rows = []
    while not walk.is_over():
        rows.append(walk.next_row())
    return rows


def is_in_state(life, rows):
    """Whether this is the state of a life; most others are unlike in one of their first rows."""
    walk = walk_of(life)
    for row in rows:
        if walk.is_over() or walk.next_row() != row:
            return False
    return walk.is_over()


def are_in_one_state(life, other):
    walk, other_walk = walk_of(life), walk_of(other)
    while not walk.is_over() and not other_walk.is_over():
        if walk.next_row() != other_walk.next_row():
            return False
    return walk.is_over() and other_walk.is_over()
