"""Ops on values [5.4], and on groups of faults [8.1, 8.2]."""

from loopyard.checks import need, need_tuple, need_whole
from loopyard.faults import Fault, grouped, parted_fault
from loopyard.texts import is_whole
from loopyard.values import is_same


def give_it(loop, value):
    return value


def compare_same(loop, one, other):
    return is_same(one, other)


def is_text(value):
    return isinstance(value, str)


def compare_less(loop, one, other):
    need(is_whole(one) and is_whole(other) or is_text(one) and is_text(other), "TypeError")
    return one < other


def negate(loop, value):
    return not value


def add_up(loop, one, other):
    numbers = is_whole(one) and is_whole(other)
    texts = is_text(one) and is_text(other)
    need(numbers or texts or isinstance(one, tuple) and isinstance(other, tuple), "TypeError")
    return one + other


def take_item(loop, row, index):
    need_whole(index)
    need_tuple(row)
    need(0 <= index < len(row), "IndexError")
    return row[index]


def tell_size(loop, row):
    need_tuple(row)
    return len(row)


def make_fault(loop, kind, *told):
    return Fault(kind, told)


def need_fault(value):
    need(isinstance(value, Fault), "TypeError")


def tell_kind(loop, fault):
    need_fault(fault)
    return fault.kind


def tell_args(loop, fault):
    need_fault(fault)
    return fault.told


def group_of(loop, message, faults):
    need(is_text(message), "TypeError")
    need_tuple(faults)
    need(len(faults) > 0, "ValueError")
    need(all([isinstance(part, Fault) for part in faults]), "ValueError")
    return grouped(message, faults)


def faults_of(loop, fault):
    need_fault(fault)
    return fault.parts


def split(loop, fault, kinds):
    need_fault(fault)
    if is_text(kinds):
        return parted_fault(fault, (kinds,))
    need(isinstance(kinds, tuple) and all([is_text(kind) for kind in kinds]), "TypeError")
    return parted_fault(fault, kinds)


def subgroup(loop, fault, kinds):
    return split(loop, fault, kinds)[0]


VALUE_OPS = {
    "it": give_it, "same": compare_same, "less": compare_less, "not": negate, "add": add_up, "item": take_item,
    "size": tell_size, "fault": make_fault, "kind": tell_kind, "args": tell_args, "group_of": group_of,
    "faults_of": faults_of, "split": split, "subgroup": subgroup,
}
