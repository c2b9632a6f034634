"""Overlaps of rules: the words in which two rules stand with signs in common."""


def fits(one, other, place):
    return one.startswith(other, place) or other.startswith(one[place:])


def places_of(one, other, start):
    return [place for place in range(start, len(one)) if fits(one, other, place)]


def overlaps(rules):
    found = []
    for first, one in enumerate(rules):
        for second, other in enumerate(rules):
            # At nought a rule would only be laid upon itself.
            start = 1 if first == second else 0
            for place in places_of(one[0], other[0], start):
                beyond = other[0][len(one[0]) - place:]
                found.append((one[0] + beyond, first, second, place))
    return found
