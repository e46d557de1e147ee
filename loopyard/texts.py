"""What is a whole number, a name, a word."""

SMALL = "abcdefghijklmnopqrstuvwxyz"
CAPITAL = "ABCDEFGHIJKLMNOPQRSTUVWXYZ"
DIGITS = "0123456789"
LONGEST = 20


def is_whole(value):
    return isinstance(value, int) and not isinstance(value, bool)


def is_name(value):
    """A text of 1 to 20 letters, digits and underscores that begins with a letter."""
    if not isinstance(value, str) or not 1 <= len(value) <= LONGEST:
        return False
    if value[0] not in SMALL and value[0] not in CAPITAL:
        return False
    return all([sign in SMALL or sign in CAPITAL or sign in DIGITS or sign == "_" for sign in value])


def is_word(value):
    """A name without capital letters."""
    return is_name(value) and not any([sign in CAPITAL for sign in value])


def is_param(value):
    return is_name(value) and value[0] in SMALL


def leaves(value):
    """The value itself, or, of a tuple, all that stands in it at any depth and is no tuple."""
    found = []
    todo = [value]
    while todo:
        part = todo.pop()
        if isinstance(part, tuple):
            todo.extend(list(part))
        else:
            found.append(part)
    return found


def is_plain_leaf(leaf):
    if isinstance(leaf, str):
        return not leaf.startswith("@")
    return leaf is None or isinstance(leaf, int)


def is_arg_leaf(leaf):
    return is_plain_leaf(leaf) or isinstance(leaf, str) and is_name(leaf[1:])


def is_plain_value(value):
    """None, a bool, a whole number, a text that does not begin with @, or a tuple of these."""
    return all([is_plain_leaf(leaf) for leaf in leaves(value)])


def is_arg(value):
    """Like a plain value, but that a text may stand for a variable: @ and its name."""
    return all([is_arg_leaf(leaf) for leaf in leaves(value)])


def leaf_text(leaf):
    if leaf is None:
        return "none"
    if isinstance(leaf, bool):
        return "true" if leaf else "false"
    if isinstance(leaf, str):
        return f"{len(leaf)}:{leaf}"
    # Without end, other than decimal digits, which Python refuses for very great numbers.
    return f"{leaf:x}"


def value_text(value):
    """A plain value as a text: two values have the same text just if they are the same [1.3]."""
    found = []
    todo = [value]
    while todo:
        part = todo.pop()
        if isinstance(part, tuple):
            found.append(f"({len(part)}")
            todo.extend(part[::-1])
        else:
            found.append(leaf_text(part))
    return " ".join(found)
