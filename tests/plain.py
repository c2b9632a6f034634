"""Plain ways to the same answers, slow and easy to follow, against which the program is held."""

import itertools
import random

GREAT = [2 ** 31, 2 ** 32, 2 ** 63 - 1, 2 ** 63, 2 ** 64, 10 ** 30, 10 ** 5000]


def short_words(signs, most):
    words = []
    for length in range(most + 1):
        words += ["".join(some) for some in itertools.product(signs, repeat=length)]
    return words


def some_lists(count, pairs, signs, most, seed):
    # The seed makes the same lists at each run.
    chosen = random.Random(seed)
    words = short_words(signs, most)
    return [[(chosen.choice(words), chosen.choice(words)) for pair in range(pairs)] for number in range(count)]


def plain_key(word):
    return (len(word), word)


def plain_steps(rules, word):
    found = []
    for number, (left, right) in enumerate(rules):
        for place in range(len(word)):
            if word[place:place + len(left)] == left:
                found.append((place, number))
    return sorted(found)


def plain_step(rules, word, place, number):
    left, right = rules[number]
    return word[:place] + right + word[place + len(left):]


def plain_ground(rules, word):
    done = []
    while plain_steps(rules, word):
        done.append(min(plain_steps(rules, word)))
        word = plain_step(rules, word, *done[-1])
    return (word, done)


def plain_links(pairs, word):
    found = {}
    for number, pair in enumerate(pairs):
        for forth in (True, False):
            old, new = pair if forth else (pair[1], pair[0])
            for place in range(len(word) - len(old) + 1):
                if word[place:place + len(old)] == old:
                    found[(number, place, forth)] = word[:place] + new + word[place + len(old):]
    return found


def plain_overlaps(rules):
    found = []
    for first, (one, right) in enumerate(rules):
        for second, (other, right) in enumerate(rules):
            for place in range(len(one)):
                common = min(len(one) - place, len(other))
                same = all(one[place + sign] == other[sign] for sign in range(common))
                if same and (first, 0) != (second, place):
                    found.append((one + other[common:], first, second, place))
    return found


def plain_settled(pairs):
    rules = []
    to_do = list(pairs)
    while to_do:
        forms = {plain_ground(rules, word)[0] for word in to_do.pop(0)}
        if len(forms) == 2:
            right, left = sorted(forms, key=plain_key)
            to_do += [rule for rule in rules if left in rule[0]]
            rules = [rule for rule in rules if left not in rule[0]] + [(left, right)]
            rules.sort(key=lambda rule: plain_key(rule[0]))
    return [(left, plain_ground(rules, right)[0]) for left, right in rules]


def plain_clashes(rules):
    found = []
    for word, first, second, place in plain_overlaps(rules):
        words = (plain_step(rules, word, 0, first), plain_step(rules, word, place, second))
        if plain_ground(rules, words[0])[0] != plain_ground(rules, words[1])[0]:
            found.append(words)
    return found


def plain_milled(pairs, rounds):
    rules = plain_settled(pairs)
    for number in range(rounds):
        if plain_clashes(rules):
            rules = plain_settled(rules + plain_clashes(rules))
    return ("more" if plain_clashes(rules) else "done", rules)


def plain_forms(rules, signs, most):
    return [word for word in short_words(signs, most) if not any(left in word for left, right in rules)]


def plain_ends(rules, word):
    # All words without a step to which some steps lead, in whatever order they are done.
    seen = {word}
    to_do = [word]
    for reached in to_do:
        behind = {plain_step(rules, reached, *step) for step in plain_steps(rules, reached)}
        to_do += sorted(behind - seen)
        seen |= behind
    return sorted(reached for reached in seen if not plain_steps(rules, reached))
