"""What the parts of a task tell one another.

A signal is a tuple of one of the first words and what belongs to it. Carriers (activations of
routines, and the loop's own coroutines) give signals to the machine that carries them out.
"""

# The carrier has ended with a value, or with a fault.
ENDS = 0
FAILS = 1
# Another carrier is carried out first: its outcome is what this one goes on with.
ENTERS = 2
# A future's outcome is what this one goes on with.
WAITS = 3
# The task gives up its turn once.
PAUSES = 4
# Within an activation: its innermost frame is left, and the way in which it is.
LEAVES = 5

# The ways in which a body ends.
NORMAL = 0
BREAK = 1
RETURN = 2
FAULT = 3

# What a carrier goes on with.
TOOK = 0
THREW = 1
