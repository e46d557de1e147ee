"""What things that can be entered by with have in common."""

from loopyard.signals import ENDS, LEAVES
from loopyard.things import Thing


class Manager(Thing):
    """A thing for with: enter and leave answer with signals of its frame."""

    def enter(self, loop):
        """ENDS with what entering gives, or ENTERS with the carrier that waits until it is entered."""
        return (ENDS, self)

    def entered(self, value):
        """What the variable of a with gets."""
        return value

    def leave(self, loop, how, value):
        """LEAVES with the way in which the block ended, or ENTERS with a carrier ahead of that."""
        return (LEAVES, (how, value))
