"""The order of words: the shorter ones first, equally long ones as Python's texts."""


def before(one, other):
    if len(one) != len(other):
        return len(one) < len(other)
    return one < other
