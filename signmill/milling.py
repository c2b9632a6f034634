"""Pairs milled round by round into rules, and words asked about by the rules that come of it."""

from signmill.chains import moved, shortened, turned
from signmill.overlaps import overlaps
from signmill.settling import clashes, equations_of, ground_with_chain, rules_of, settled, words_behind


def clashing(equations):
    rules = rules_of(equations)
    return [overlap for overlap in overlaps(rules) if clashes(rules, overlap)]


def equation_behind(equations, overlap):
    words = words_behind(rules_of(equations), overlap)
    # Both words come of the overlap's word: the chain leads back to it and from there on.
    back = turned(equations[overlap[1]][2])
    on = moved(equations[overlap[2]][2], overlap[3])
    return (words[0], words[1], back + on)


def settled_shortly(pairs, equations):
    # Chains are put together of chains in each round: left as they are, they grow very fast.
    return [(rule[0], rule[1], shortened(pairs, rule[0], rule[2])) for rule in settled(equations)]


def rounds_done(pairs, rounds):
    equations = settled_shortly(pairs, equations_of(pairs))
    found = clashing(equations)
    count = 0
    while found and count < rounds:
        added = [equation_behind(equations, overlap) for overlap in found]
        equations = settled_shortly(pairs, equations + added)
        found = clashing(equations)
        count += 1
    return (not found, equations)


def milled(pairs, rounds):
    answer = rounds_done(pairs, rounds)
    equations = answer[1]
    told = "done" if answer[0] else "more"
    return (told, rules_of(equations), [equation[2] for equation in equations])


def asked(pairs, rounds, one, other):
    answer = rounds_done(pairs, rounds)
    first = ground_with_chain(answer[1], one)
    second = ground_with_chain(answer[1], other)
    if first[0] == second[0]:
        return ("equal", shortened(pairs, one, first[1] + turned(second[1])))
    return ("apart" if answer[0] else "open", first[0], second[0])
