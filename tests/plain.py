"""Plain ways to the same answers, slow and easy to follow, against which the program is held."""

import itertools

GREAT = [2 ** 31, 2 ** 32, 2 ** 63 - 1, 2 ** 63, 2 ** 64, 10 ** 30, 10 ** 5000]


def short_words(signs, most):
    words = []
    for length in range(most + 1):
        words += ["".join(some) for some in itertools.product(signs, repeat=length)]
    return words


def plain_key(word):
    return (len(word), word)


def plain_steps(rules, word):
    found = []
    for number, (left, right) in enumerate(rules):
        for place in range(len(word)):
            if word[place:place + len(left)] == left:
                found.append((place, number))
    return sorted(found)


def plain_step(rules, word, place, number):
    left, right = rules[number]
    return word[:place] + right + word[place + len(left):]


def plain_ground(rules, word):
    done = []
    while plain_steps(rules, word):
        done.append(min(plain_steps(rules, word)))
        word = plain_step(rules, word, *done[-1])
    return (word, done)


def plain_links(pairs, word):
    found = {}
    for number, pair in enumerate(pairs):
        for forth in (True, False):
            old, new = pair if forth else (pair[1], pair[0])
            for place in range(len(word) - len(old) + 1):
                if word[place:place + len(old)] == old:
                    found[(number, place, forth)] = word[:place] + new + word[place + len(old):]
    return found


def plain_overlaps(rules):
    found = []
    for first, (one, right) in enumerate(rules):
        for second, (other, right) in enumerate(rules):
            for place in range(len(one)):
                common = min(len(one) - place, len(other))
                same = all(one[place + sign] == other[sign] for sign in range(common))
                if same and (first, 0) != (second, place):
                    found.append((one + other[common:], first, second, place))
    return found


def plain_settled(pairs):
    rules = []
    to_do = list(pairs)
    while to_do:
        forms = {plain_ground(rules, word)[0] for word in to_do.pop(0)}
        if len(forms) == 2:
            right, left = sorted(forms, key=plain_key)
            to_do += [rule for rule in rules if left in rule[0]]
            rules = [rule for rule in rules if left not in rule[0]] + [(left, right)]
            rules.sort(key=lambda rule: plain_key(rule[0]))
    return [(left, plain_ground(rules, right)[0]) for left, right in rules]
