"""Chains of pairs: the word that one leads to, the one that leads back, one moved, one shortened."""

from signmill.errors import NoChain
from signmill.words import changed, stands


def linked(pairs, word, link):
    number = link[0]
    place = link[1]
    # Neither number is told in a refusal: Python refuses to write out a very great one.
    if number < 0 or number >= len(pairs):
        raise NoChain("no pair has the number of this link")
    first = pairs[number][0]
    second = pairs[number][1]
    old = first if link[2] else second
    new = second if link[2] else first
    if not stands(old, word, place):
        raise NoChain("the word of this link does not stand at its place")
    return changed(word, place, old, new)


def walked(pairs, word, chain):
    reached = word
    for link in chain:
        reached = linked(pairs, reached, link)
    return reached


def turned(chain):
    return [(link[0], link[1], not link[2]) for link in reversed(chain)]


def moved(chain, places):
    return [(link[0], link[1] + places, link[2]) for link in chain]


def words_along(pairs, word, chain):
    words = [word]
    for link in chain:
        words.append(linked(pairs, words[-1], link))
    return words


def shortened(pairs, word, chain):
    words = words_along(pairs, word, chain)
    last = {}
    for number, reached in enumerate(words):
        last[reached] = number
    kept = []
    # What lies between a word and the same word further on leads nowhere, and is left out.
    at = last[word]
    while at < len(chain):
        kept.append(chain[at])
        at = last[words[at + 1]]
    return kept
