"""The words in which no rule stands, listed in their order."""


def ends_free(rules, word):
    return not any([word.endswith(rule[0]) for rule in rules])


def longer_by_one(rules, signs, words):
    longer = []
    for word in words:
        # No rule stands in the word itself, so one that stands in the longer word ends it.
        longer.extend([word + sign for sign in signs if ends_free(rules, word + sign)])
    return longer


def forms(rules, signs, most):
    if most < 0:
        return []
    words = [""]
    listed = [""]
    length = 0
    # The length told may be very great: where no longer word is found, the list has its end.
    while words and length < most:
        words = longer_by_one(rules, signs, words)
        listed.extend(words)
        length += 1
    return listed
