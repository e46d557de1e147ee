"""All ops of programs in one table, but for call, which activations carry out themselves."""

from loopyard.futureops import FUTURE_OPS
from loopyard.groups import GROUP_OPS
from loopyard.lockops import LOCK_OPS
from loopyard.loopops import LOOP_OPS
from loopyard.queueops import QUEUE_OPS
from loopyard.valueops import VALUE_OPS
from loopyard.waitops import WAIT_OPS


def all_ops():
    table = dict(VALUE_OPS)
    table.update(dict(LOOP_OPS))
    table.update(dict(FUTURE_OPS))
    table.update(dict(WAIT_OPS))
    table.update(dict(GROUP_OPS))
    table.update(dict(LOCK_OPS))
    table.update(dict(QUEUE_OPS))
    return table
