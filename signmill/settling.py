"""Overlaps that clash, and pairs that are settled into rules.

Here two equal words go with what shows it, as an equation: a tuple (one, other, chain) with a
chain of the first pairs from the one to the other. Settled, an equation is a rule: its first
word is the left, its second one the right.
"""

from signmill.chains import moved, turned
from signmill.grinding import ground, step
from signmill.words import before


def words_behind(rules, overlap):
    word = overlap[0]
    return (step(rules, word, 0, overlap[1]), step(rules, word, overlap[3], overlap[2]))


def clashes(rules, overlap):
    words = words_behind(rules, overlap)
    return ground(rules, words[0])[0] != ground(rules, words[1])[0]


def equations_of(pairs):
    return [(pair[0], pair[1], [(number, 0, True)]) for number, pair in enumerate(pairs)]


def rules_of(equations):
    return [(equation[0], equation[1]) for equation in equations]


def ground_with_chain(equations, word):
    found = ground(rules_of(equations), word)
    chain = []
    for taken in found[1]:
        chain.extend(moved(equations[taken[1]][2], taken[0]))
    return (found[0], chain)


def both_ground(kept, equation):
    one = ground_with_chain(kept, equation[0])
    other = ground_with_chain(kept, equation[1])
    return (one[0], other[0], turned(one[1]) + equation[2] + other[1])


def right_ground(kept, equation):
    right = ground_with_chain(kept, equation[1])
    return (equation[0], right[0], equation[2] + right[1])


def later_first(equation):
    if before(equation[0], equation[1]):
        return (equation[1], equation[0], turned(equation[2]))
    return equation


def put_in(kept, equation):
    ahead = [other for other in kept if before(other[0], equation[0])]
    behind = [other for other in kept if not before(other[0], equation[0])]
    return ahead + [equation] + behind


def settled(equations):
    to_do = list(equations)
    kept = []
    while to_do:
        equation = later_first(both_ground(kept, to_do.pop(0)))
        left = equation[0]
        if left != equation[1]:
            to_do.extend([other for other in kept if left in other[0]])
            kept = put_in([other for other in kept if left not in other[0]], equation)
    # No right that is ground already is used, so they are ground beside the list, not in it.
    return [right_ground(kept, equation) for equation in kept]
