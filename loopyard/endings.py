"""What never ends: the fates of lives, and the tasks that stand for ever [12]."""

from loopyard.errors import BadValue, TooLong
from loopyard.moments import Moment, Walk
from loopyard.program import check_life
from loopyard.running import Life
from loopyard.states import are_in_one_state, is_in_state, state_rows
from loopyard.texts import is_whole

MOST_TURNS = 2000

# Behind so many turns it is first looked whether a life has gone round already: most rounds are short.
LOOKS = (20, 200)


def check_most(most):
    if not is_whole(most) or not 1 <= most <= MOST_TURNS:
        raise BadValue("most is a whole number from 1 to 2,000")


def lived(program, call, turns):
    """A life behind so many turns."""
    life = Life(program, call)
    while life.turns < turns:
        life.turn()
    return life


def end_within(life, turns):
    """Go on up to so many turns; how and when the life ends, None if it does not within them."""
    while True:
        if life.is_over():
            return ("over", life.turns)
        if life.is_stuck():
            return ("stuck", life.turns)
        if life.turns >= turns:
            return None
        life.turn()


def round_within(program, call, life):
    """The round in which a life has gone so far, as a paper; None if its state is new.

    Behind the turns that it has done it is in the round, if it ever was: so its state tells the
    period when it comes for the last time ahead of that, and bounds first when it first comes.
    """
    rows = state_rows(life)
    other = Life(program, call)
    came = []
    while other.turns < life.turns:
        if is_in_state(other, rows):
            came.append(other.turns)
        other.turn()
    if not came:
        return None
    period = life.turns - came[-1]
    # The first time lies in the first turns of the round: fewer than a period behind its begin.
    earliest = max(0, came[0] - period + 1)
    slow, fast = lived(program, call, earliest), lived(program, call, earliest + period)
    while slow.turns < came[0] and not are_in_one_state(slow, fast):
        slow.turn()
        fast.turn()
    return ("round", slow.turns, period)


def fate_of(program, call, most):
    """The fate of a life, for arguments that were checked."""
    life = Life(program, call)
    for look in (*LOOKS, most):
        turns = min(look, most)
        end = end_within(life, turns)
        if end is not None:
            return end
        paper = round_within(program, call, life)
        if paper is not None:
            return paper
        if turns == most:
            break
    return ("open", most)


def closed_fate(program, call, most):
    """The fate of a life; TooLong if it is open."""
    paper = fate_of(program, call, most)
    if paper[0] == "open":
        raise TooLong(most)
    return paper


def fate(program, call, most):
    """What becomes of a life within so many turns: over, stuck, round or open."""
    check_life(program, call)
    check_most(most)
    return fate_of(program, call, most)


def is_turns(value):
    return is_whole(value) and 0 <= value <= MOST_TURNS


def is_fate(program, call, paper):
    """Whether a paper tells the truth about a life."""
    check_life(program, call)
    if not isinstance(paper, tuple) or not 2 <= len(paper) <= 3:
        return False
    word = paper[0]
    if not isinstance(word, str) or not all([is_turns(turns) for turns in paper[1:]]):
        return False
    if word == "round" and len(paper) == 3:
        return is_round(program, call, paper[1], paper[2])
    if word in ("over", "stuck") and len(paper) == 2:
        return end_within(Life(program, call), paper[1]) == paper
    return False


def is_round(program, call, first, period):
    if period < 1 or first + period > MOST_TURNS:
        return False
    life = Life(program, call)
    if end_within(life, first) is not None:
        return False
    rows = state_rows(life)
    return end_within(life, first + period) is None and is_in_state(life, rows)


def sleepers(program, call, most):
    """The names of the tasks that stand for ever, in the order in which they were made."""
    check_life(program, call)
    check_most(most)
    paper = closed_fate(program, call, most)
    if paper[0] == "over":
        return []
    life = lived(program, call, paper[1])
    if paper[0] == "stuck":
        return life.pending()
    return standing(life, paper[2])


def standing(life, period):
    """The names of the pending tasks that stand for ever, at the begin of a round.

    A task that stands through a period plays behind it the part of a task that was not made later.
    So who stands for ever comes to keep one part, and then has had it from the begin on: for that
    part nobody else ever comes.
    """
    tasks = list(life.loop.undone.values())
    waits = [task.waits for task in tasks]
    turns = life.turns + period
    while life.turns < turns:
        life.turn()
    found = []
    for task, future, other in zip(tasks, waits, list(life.loop.undone.values())):
        if future is not None and task == other and task.waits == future:
            found.append(task.name)
    return found


def out_of_reach(life):
    """The names of the pending tasks to which nothing leads that can still come."""
    if not isinstance(life, Life):
        raise BadValue("a Life is needed")
    walk = Walk(Moment(life.loop), [tuple(life.loop.can_come())])
    while not walk.is_over():
        walk.next_row()
    return [task.name for task in life.loop.undone.values() if task not in walk.numbers]
