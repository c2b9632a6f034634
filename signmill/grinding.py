"""Words ground by rules: where rules stand, what a step makes of a word, its least form."""

from signmill.errors import NoStep
from signmill.words import changed, stands


def numbers_at(rules, word, place):
    return [number for number, rule in enumerate(rules) if word.startswith(rule[0], place)]


def steps_of(rules, word):
    steps = []
    for place in range(len(word)):
        steps.extend([(place, number) for number in numbers_at(rules, word, place)])
    return steps


def step(rules, word, place, number):
    left = rules[number][0]
    right = rules[number][1]
    if not stands(left, word, place):
        # The place is not told: Python refuses to write out a very great number.
        raise NoStep("the rule does not stand at this place of the word")
    return changed(word, place, left, right)


def first_step(rules, word, start):
    for place in range(start, len(word)):
        numbers = numbers_at(rules, word, place)
        if numbers:
            return (place, numbers[0])
    return None


def ground(rules, word):
    form = word
    steps = []
    longest = max([len(rule[0]) for rule in rules], default=0)
    found = first_step(rules, form, 0)
    while found is not None:
        place = found[0]
        steps.append(found)
        form = step(rules, form, place, found[1])
        # No rule stood ahead of the place, so one that stands there now reaches beyond it.
        found = first_step(rules, form, max(0, place - longest + 1))
    return (form, steps)
