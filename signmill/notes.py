"""Pairs written as lines, and lines read as pairs."""

from signmill.errors import NoLine

# Written out, since Python counts letters of other scripts as letters too.
LETTERS = "abcdefghijklmnopqrstuvwxyz"


def is_word(text):
    return all([sign in LETTERS for sign in text])


def pair_of(line):
    words = line.split(">")
    if len(words) != 2 or not is_word(words[0]) or not is_word(words[1]):
        raise NoLine(f"this is no line of a pair: {line!r}")
    return (words[0], words[1])


def shown(pairs):
    return [pair[0] + ">" + pair[1] for pair in pairs]


def read(lines):
    return [pair_of(line) for line in lines]
