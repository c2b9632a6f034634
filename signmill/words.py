"""Words: their order, where one stands in another, and one changed for another there."""


def before(one, other):
    if len(one) != len(other):
        return len(one) < len(other)
    return one < other


def stands(part, word, place):
    # A place less than nought would be counted from the word's end by Python.
    return place >= 0 and place <= len(word) and word.startswith(part, place)


def changed(word, place, old, new):
    return word[:place] + new + word[place + len(old):]
